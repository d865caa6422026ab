/- Hp. -/
import Derived.Test.YtbckhbeebngjfaaGreatDoorT08
namespace Go.Proofs.YtbckhbeebngjfaaGreatDoor
open Go.RowKit
set_option maxRecDepth 100000 in
set_option maxHeartbeats 8000000 in
theorem list_nil {b tg tc:Nat} {ts:List Sc.T} {sz:Nat} {s:Pr.Dk} (i0:Pr.is ts sz s [93]=true):Pr.SL b tg tc ts sz s:=by
 intro v0 w0 hd0 hN
 obtain ⟨p0,cp0,rfl⟩:=row_formP hd0.row
 have h0:=hd0.le
 have hm:=hd0.most
 have HD0:=hide hd0
 have HG0:=hide (Pr.Gr.refl b (.slice p0 s.out.length cp0) w0)
 have HS0:=hide (Pr.Stp.refl h0)
 clear hd0
 go_enter Tryz.func117,Tryz.ntmps117
 have Q1:=hide (takeY HD0.out [93] #[93] rfl i0)
 go_wp2_with fail
 refine Q1.out.mono ?_
 rintro e1 w1 ⟨rfl,v1,hd1,hg1⟩
 have HD1:=hide hd1
 have HG1:=hide (HG0.out.trans hg1)
 have HS1:=hide (HS0.out.adv i0)
 clear hd1 hg1 Q1
 have Q2:=hide (put_any HD1.out (HS1.out.len (by first | omega | (simp only [Pr.extra];omega)) h0 hN) 8 0 0 [] 0)
 go_wp2_with fail
 refine Q2.out.mono ?_
 rintro e2 w2 ⟨rfl,v2,hd2,hg2⟩
 have HD2:=hide hd2
 have HG2:=hide (HG1.out.trans hg2)
 have HS2:=hide (HS1.out.put 8 0 0 [] 0)
 clear hd2 hg2 Q2
 go_wp2
 (first | go_end0 | refine bodyPost_ret (results_none rfl _ _ _) rfl ?_)
 exact ⟨(_,0),rfl,Pr.Cv.list_nil i0,v2,HD2.out,HG2.out⟩
theorem row_takeP {w:World} {B e size n k g c:Nat} {xs:List Value} (h:w.ownsRow B e size (.slice (some ⟨g,0,none⟩) n c) n xs) (hk:k≤n):w.ownsRow B e size (.slice (some ⟨g,0,none⟩) k c) k (xs.take (k * size)):=by
 have hks:k * size≤n * size:=Nat.mul_le_mul_right _ hk
 rcases h.2 with ⟨h1,_⟩ | ⟨g',c',cur,hv,h2,h3,h4,h5,h6,h7⟩
 ·cases h1
 ·cases hv
  refine ⟨by rw [List.length_take,h.1];omega,.inr ⟨g,c,cur,rfl,h2,h3,by omega,h5,h6,?_⟩⟩
  rw [← h7,List.take_take,Nat.min_eq_left hks]
theorem Tr.cellsOf_takeP (l:List Tr.Nd) (k:Nat):Tr.cellsOf (l.take k)=(Tr.cellsOf l).take (k*5):=by
 induction l generalizing k with
 | nil=>simp [Tr.cellsOf]
 | cons x r ih =>
  cases k with
  | zero=>simp [Tr.cellsOf]
  | succ k =>
   have hx:x.cells.length=5:=rfl
   rw [List.take_succ_cons,show Tr.cellsOf (x :: r.take k)=x.cells++Tr.cellsOf (r.take k) from rfl,show Tr.cellsOf (x :: r)=x.cells++Tr.cellsOf r from rfl,ih,List.take_append,List.take_of_length_le (l:=x.cells) (by omega),hx,show (k+1)*5 - 5=k*5 from by omega]
theorem Tr.cellsOf_dropP (l:List Tr.Nd) (k:Nat):Tr.cellsOf (l.drop k)=(Tr.cellsOf l).drop (k*5):=by
 induction l generalizing k with
 | nil=>simp [Tr.cellsOf]
 | cons x r ih =>
  cases k with
  | zero=>simp
  | succ k =>
   have hx:x.cells.length=5:=rfl
   rw [List.drop_succ_cons,ih,show Tr.cellsOf (x :: r)=x.cells++Tr.cellsOf r from rfl,List.drop_append,List.drop_of_length_le (l:=x.cells) (by omega),hx,show (k+1)*5 - 5=k*5 from by omega,List.nil_append]
theorem Tr.cellsOf_lenP (l:List Tr.Nd):(Tr.cellsOf l).length=l.length*5:=by
 induction l with
 | nil=>rfl
 | cons x r ih=>rw [show Tr.cellsOf (x :: r)=x.cells++Tr.cellsOf r from rfl,List.length_append,ih,List.length_cons];simp [Tr.Nd.cells];omega
theorem Tr.cellsOf_oneP (l:List Tr.Nd):∀ u∈Tr.cellsOf l,u.oneCell'=true:=by
 intro u hu
 unfold Tr.cellsOf at hu
 obtain ⟨d,_,h⟩:=List.mem_flatMap.1 hu
 exact Tr.nd_oneP d u h
theorem row_cellP {w:World} {B e size n g c:Nat} {xs:List Value} (h:w.ownsRow B e size (.slice (some ⟨g,0,none⟩) n c) n xs) {j:Nat} {u:Value} (hu:xs[j]?=some u):w.cell? ⟨g,j,none⟩=some u:=by
 rcases h.2 with ⟨h1,_⟩ | ⟨g',c',cur,hv,h2,h3,h4,h5,h6,h7⟩
 ·cases h1
 ·cases hv
  rw [← h7] at hu
  rw [List.getElem?_take] at hu
  split at hu
  ·rw [World.cell?,h3];simpa using hu
  ·cases hu
set_option maxRecDepth 100000 in
set_option maxHeartbeats 8000000 in
theorem list_says {b tg tc:Nat} {ts:List Sc.T} {sz:Nat} {s:Pr.Dk} (i0:Pr.is ts sz s [93]=false) (ihE:∀ q:Pr.Dk,s.p≤q.p→q.p≤ts.length→Pr.SE b tg tc ts sz q):Pr.SL b tg tc ts sz s:=by
 obtain ⟨iN,hNi,hNz,hNs,hNb⟩:=info_parts Tryz.infoNdP
 intro v0 w0 hd0 hN
 obtain ⟨p0,cp0,rfl⟩:=row_formP hd0.row
 have h0:=hd0.le
 have hm:=hd0.most
 have HD0:=hide hd0
 have HG0:=hide (Pr.Gr.refl b (.slice p0 s.out.length cp0) w0)
 have HS0:=hide (Pr.Stp.refl h0)
 clear hd0
 go_enter Tryz.func117,Tryz.ntmps117
 have Q1:=hide (takeN HD0.out [93] #[93] rfl i0)
 go_wp2_with fail
 refine Q1.out.mono ?_
 rintro e1 w1 ⟨rfl,v1,hd1,hg1⟩
 have HD1:=hide hd1
 have HG1:=hide (HG0.out.trans hg1)
 have HS1:=hide (HS0.out)
 clear hd1 hg1 Q1
 obtain ⟨p1,cp1,rfl⟩:=row_formP HD1.out.row
 have c5:=HD1.out.c5
 have Q2:=hide (ihE _ HS1.out.ge HS1.out.le _ _ HD1.out (HS1.out.phi (by first | omega | (simp only [Pr.extra];omega)) h0 hN))
 go_wp2_with fail
 refine Q2.out.mono ?_
 rintro e2 w2 ⟨r2,rfl,hc2,v2,hd2,hg2⟩
 have HC2:=hide hc2
 have HD2:=hide hd2
 have HG2:=hide (HG1.out.trans hg2)
 have HS2:=hide (HS1.out.trans (hc2.stp HS1.out.le))
 clear hc2 hd2 hg2 Q2
 clear c5
 cases i1:Pr.is ts sz r2.1 Pr.sFor
 ·have Q3:=hide (takeN HD2.out Pr.sFor #[102,111,114] rfl i1)
  go_wp2_with fail
  refine Q3.out.mono ?_
  rintro e3 w3 ⟨rfl,v3,hd3,hg3⟩
  have HD3:=hide hd3
  have HG3:=hide (HG2.out.trans hg3)
  have HS3:=hide (HS2.out)
  clear hd3 hg3 Q3
  have HI:=hide (show ∀ rr,Pr.Cv ts sz (.listL 1) r2.1 rr→Pr.Cv ts sz .list s (Pr.put (Pr.need ts sz rr.1 [93]) 8 0 0 [] rr.2,0) from fun _ h=>Pr.Cv.list_list i0 i1 HC2.out h)
  go_wp2_with fail
  go_loopw [6] (fun t wr=>∃ (n:Nat) (q:Pr.Dk) (vq:Value),t = .int .i64 n∧n≤q.p+1∧DK b tg tc ts sz vq q wr∧Pr.Gr b (.slice p0 s.out.length cp0) vq w0 wr∧Pr.Stp ts s q 0∧∀ rr,Pr.Cv ts sz (.listL n) q rr→Pr.Cv ts sz .list s (Pr.put (Pr.need ts sz rr.1 [93]) 8 0 0 [] rr.2,0)) (fun _ wr=>Pr.left b ts wr)
  case atStart=>exact ⟨1,_,v3,rfl,by omega,HD3.out,HG3.out,HS3.out.mono (by first | omega | (simp only [Pr.extra];omega)),HI.out⟩
  case round =>
   obtain ⟨n,q,v30,rfl,hnp,hd30,hg30,hs30,hi30⟩:=hrel
   have hle:=hd30.le
   have HD30:=hide hd30
   have HG30:=hide hg30
   have HS30:=hide hs30
   have HI30:=hide hi30
   clear hd30 hg30 hs30 hi30 HI
   cases ic:Pr.is ts sz q [44]
   ·have Q31:=hide (takeN HD30.out [44] #[44] rfl ic)
    go_wp2_with fail
    refine Q31.out.mono ?_
    rintro e31 w31 ⟨rfl,v31,hd31,hg31⟩
    have HD31:=hide hd31
    have HG31:=hide (HG30.out.trans hg31)
    have HS31:=hide (HS30.out)
    clear hd31 hg31 Q31
    have Q32:=hide (needW HD31.out [93] #[93] rfl)
    go_wp2_with fail
    refine Q32.out.mono ?_
    rintro e32 w32 ⟨rfl,v32,hd32,hg32⟩
    have HD32:=hide hd32
    have HG32:=hide (HG31.out.trans hg32)
    have HS32:=hide (HS31.out.need (sz:=sz) [93])
    clear hd32 hg32 Q32
    have Q33:=hide (put_any HD32.out (HS32.out.len (by first | omega | (simp only [Pr.extra];omega)) h0 hN) 8 0 0 [] n)
    go_wp2_with fail
    refine Q33.out.mono ?_
    rintro e33 w33 ⟨rfl,v33,hd33,hg33⟩
    have HD33:=hide hd33
    have HG33:=hide (HG32.out.trans hg33)
    have HS33:=hide (HS32.out.put 8 0 0 [] n)
    clear hd33 hg33 Q33
    go_wp2
    (first | go_end0 | refine bodyPost_ret (results_none rfl _ _ _) rfl ?_)
    exact ⟨(_,0),rfl,HI30.out _ (Pr.Cv.listL_end ic),v33,HD33.out,HG33.out⟩
   ·have Q31:=hide (takeY HD30.out [44] #[44] rfl ic)
    go_wp2_with fail
    refine Q31.out.mono ?_
    rintro e31 w31 ⟨rfl,v31,hd31,hg31⟩
    have HD31:=hide hd31
    have HG31:=hide (HG30.out.trans hg31)
    have HS31:=hide (HS30.out.adv ic)
    clear hd31 hg31 Q31
    have HA31:=hide (Pr.Stp.refl HS31.out.le)
    have Q32:=hide (ihE _ (Nat.le_trans (Nat.le_succ_of_le HS30.out.ge) HA31.out.ge) HS31.out.le _ _ HD31.out (HS31.out.phi (by first | omega | (simp only [Pr.extra];omega)) h0 hN))
    go_wp2_with fail
    refine Q32.out.mono ?_
    rintro e32 w32 ⟨r32,rfl,hc32,v32,hd32,hg32⟩
    have HC32:=hide hc32
    have HD32:=hide hd32
    have HG32:=hide (HG31.out.trans hg32)
    have HS32:=hide (HS31.out.trans (hc32.stp HS31.out.le))
    have HA32:=hide (HA31.out.trans (hc32.stp HA31.out.le))
    clear hc32 hd32 hg32 Q32
    have HM:=hide (show Pr.left b ts w32 < Pr.left b ts wr from by rw [HD32.out.left,HD30.out.left];have:=HA32.out.ge;have:=Pr.is_lt ic;rw [Pr.adv_p] at *;omega)
    have HNP:=hide (show n+1≤r32.1.p+1 from by have:=HA32.out.ge;rw [Pr.adv_p] at *;omega)
    go_wp2
    go_roundw
    case rel=>exact ⟨n+1,_,v32,by go_num,HNP.out,HD32.out,HG32.out,HS32.out.mono (by first | omega | (simp only [Pr.extra];omega)),fun _ h=>HI30.out _ (Pr.Cv.listL_go ic HC32.out h)⟩
    case measure=>exact HM.out
 ·have Q3:=hide (takeY HD2.out Pr.sFor #[102,111,114] rfl i1)
  go_wp2_with fail
  refine Q3.out.mono ?_
  rintro e3 w3 ⟨rfl,v3,hd3,hg3⟩
  have HD3:=hide hd3
  have HG3:=hide (HG2.out.trans hg3)
  have HS3:=hide (HS2.out.adv i1)
  clear hd3 hg3 Q3
  have hL:s.out.length≤r2.1.out.length:=HS2.out.more
  have hLB:r2.1.out.length≤100000000:=HS2.out.len (by first | omega | (simp only [Pr.extra];omega)) h0 hN
  have hL1:(s.out.length:Int)≤(r2.1.out.length:Int):=by omega
  have hrow:=HD3.out.row
  rcases hrow.2 with ⟨hv,hz⟩ | ⟨g,cap,cur,hv,hg1,hg2,hg3,hg4,hg5,hg6⟩
  ·have hz0:r2.1.out.length=0:=hz
   have hs0:s.out.length=0:=by omega
   have hs1:(s.out.length:Int)=0:=by omega
   subst hv
   have hnil:r2.1.out=[]:=List.eq_nil_of_length_eq_zero hz0
   have htk:r2.1.out.take s.out.length=[]:=by rw [hnil];simp
   have hdrop:r2.1.out.drop s.out.length=[]:=by rw [hnil];simp
   have bA:=(Below.refl w3.heap.size w3).alloc (Nat.le_refl _) (.cells #[] 82)
   have hd4:=HD3.out.below bA
   have c5:_=some (Value.slice none 0 0):=hd4.c5
   have f5:=hd4.fr 5
   have hl3:=HD3.out.lt
   have hd6:DK b tg tc ts sz (.slice none 0 0) ({Pr.adv r2.1 with out:=r2.1.out.take s.out.length}:Pr.Dk) ((w3.alloc (.cells #[] 82)).setCell ⟨b,5,none⟩ (.slice none 0 0)):=hd4.putd ⟨rfl,rfl,rfl,Nat.le_refl _,fun _ _ _=>rfl⟩ rfl rfl rfl (by show World.ownsRow _ (b+1) 82 5 _ (r2.1.out.take s.out.length).length (Tr.cellsOf (r2.1.out.take s.out.length));rw [htk];exact World.ownsRow_nil _ _ _ _)
   have HD6:=hide hd6
   have HG6:Hid (Pr.Gr b _ (.slice none 0 0) w0 ((w3.alloc (.cells #[] 82)).setCell ⟨b,5,none⟩ (.slice none 0 0))):=hide ((HG3.out.trans (.below bA)).trans (Pr.Gr.set _ _ b 5 (.slice none 0 0)))
   have HS6:Hid (Pr.Stp ts s ({Pr.adv r2.1 with out:=r2.1.out.take s.out.length}:Pr.Dk) 0):=hide ⟨Nat.le_succ_of_le HS2.out.ge,Pr.is_lt i1,by show s.out.length≤(r2.1.out.take s.out.length).length;rw [List.length_take];omega,by show ((r2.1.out.take s.out.length).length:Int)≤_+4*(((r2.1.p+1:Nat):Int) - _)+0;rw [List.length_take];have:=HS2.out.ge;omega⟩
   clear hrow hd4 hd6 bA hl3 hz
   go_wp2_with fail
   clear c5 f5
   have HA6:=hide (Pr.Stp.refl HS6.out.le)
   have Q7:=hide (nameW HD6.out)
   go_wp2_with fail
   refine Q7.out.mono ?_
   rintro e7 w7 ⟨rfl,v7,hd7,hg7⟩
   have HD7:=hide hd7
   have HG7:=hide (HG6.out.trans hg7)
   have HS7:=hide (HS6.out.name (sz:=sz))
   have HA7:=hide (HA6.out.name (sz:=sz))
   clear hd7 hg7 Q7
   have Q8:=hide (needW HD7.out Pr.sIn #[105,110] rfl)
   go_wp2_with fail
   refine Q8.out.mono ?_
   rintro e8 w8 ⟨rfl,v8,hd8,hg8⟩
   have HD8:=hide hd8
   have HG8:=hide (HG7.out.trans hg8)
   have HS8:=hide (HS7.out.need (sz:=sz) Pr.sIn)
   have HA8:=hide (HA7.out.need (sz:=sz) Pr.sIn)
   clear hd8 hg8 Q8
   have Q9:=hide (ihE _ HS8.out.ge HS8.out.le _ _ HD8.out (HS8.out.phi (by first | omega | (simp only [Pr.extra];omega)) h0 hN))
   go_wp2_with fail
   refine Q9.out.mono ?_
   rintro e9 w9 ⟨r9,rfl,hc9,v9,hd9,hg9⟩
   have HC9:=hide hc9
   have HD9:=hide hd9
   have HG9:=hide (HG8.out.trans hg9)
   have HS9:=hide (HS8.out.trans (hc9.stp HS8.out.le))
   have HA9:=hide (HA8.out.trans (hc9.stp HA8.out.le))
   clear hc9 hd9 hg9 Q9
   obtain ⟨pk,ck,rfl⟩:=row_formP HD9.out.row
   have hlk:r9.1.out.length≤100000000:=HS9.out.len (by first | omega | (simp only [Pr.extra];omega)) h0 hN
   have c5:=HD9.out.c5
   go_wp2_with (at_builtin;go_loud (refine wpList_append_own_at _ rfl _ _ 48 rfl (b+1) 82 iN _ 5 48 Tryz.underlying48 hNi hNz hNs hNb rfl (by decide) (.slice pk r9.1.out.length ck) r9.1.out.length (Tr.cellsOf r9.1.out) rfl HD9.out.row ⟨w3.heap.size,0,none⟩ 0 0 [] rfl rfl (fun j u hu=>by simp at hu) (fun u hu=>by simp at hu) (by unfold maxLen;omega) (by omega) HD9.out.lt ?_);intro vv w10 b1 b2 b3 b4;rw [Nat.add_zero,List.append_nil] at b1;obtain ⟨pv,cv,rfl⟩:=row_formP b1;have q5:=(World.cell?_of_block (a:=⟨b,5,none⟩) (b2.block b HD9.out.lt (fun e=>by have:=(HD9.out.own e.symm).1;omega))).trans HD9.out.c5;have q6:=(World.frozen?_of_block (a:=⟨b,5,none⟩) (b2.block b HD9.out.lt (fun e=>by have:=(HD9.out.own e.symm).1;omega))).trans (HD9.out.fr 5);have HB1:=hide b1;have HB2:=hide b2;have HB4:=hide b4;clear b1 b2 b3 b4)
   have hdn:DK b tg tc ts sz (.slice pv r9.1.out.length cv) ({r9.1 with out:=r9.1.out++r2.1.out.drop s.out.length}:Pr.Dk) (w10.setCell ⟨b,5,none⟩ (.slice pv r9.1.out.length cv)):=HD9.out.putd HB2.out rfl rfl rfl (by show w10.ownsRow (b+1) 82 5 _ (r9.1.out++r2.1.out.drop s.out.length).length (Tr.cellsOf (r9.1.out++r2.1.out.drop s.out.length));rw [hdrop,List.append_nil];exact HB1.out)
   have HD10:=hide hdn
   have HG10:=hide ((HG9.out.trans (.grown HB2.out HB4.out)).trans (.set _ w10 b 5 (.slice pv r9.1.out.length cv)))
   have HS10:=hide (HS2.out.swap HA9.out rfl (by show (r2.1.out.take s.out.length).length=_;rw [List.length_take];omega))
   clear hdn q5 q6
   cases i2:Pr.is ts sz ({r9.1 with out:=r9.1.out++r2.1.out.drop s.out.length}:Pr.Dk) Pr.sIf
   ·have Q11:=hide (takeN HD10.out Pr.sIf #[105,102] rfl i2)
    go_wp2_with fail
    refine Q11.out.mono ?_
    rintro e11 w11 ⟨rfl,v11,hd11,hg11⟩
    have HD11:=hide hd11
    have HG11:=hide (HG10.out.trans hg11)
    have HS11:=hide (HS10.out)
    clear hd11 hg11 Q11
    have Q12:=hide (needW HD11.out [93] #[93] rfl)
    go_wp2_with fail
    refine Q12.out.mono ?_
    rintro e12 w12 ⟨rfl,v12,hd12,hg12⟩
    have HD12:=hide hd12
    have HG12:=hide (HG11.out.trans hg12)
    have HS12:=hide (HS11.out.need (sz:=sz) [93])
    clear hd12 hg12 Q12
    have Q13:=hide (put_any HD12.out (HS12.out.len (by first | omega | (simp only [Pr.extra];omega)) h0 hN) 16 0 0 (Pr.nameT ts sz ({Pr.adv r2.1 with out:=r2.1.out.take s.out.length}:Pr.Dk)) 2)
    go_wp2_with fail
    refine Q13.out.mono ?_
    rintro e13 w13 ⟨rfl,v13,hd13,hg13⟩
    have HD13:=hide hd13
    have HG13:=hide (HG12.out.trans hg13)
    have HS13:=hide (HS12.out.put 16 0 0 (Pr.nameT ts sz ({Pr.adv r2.1 with out:=r2.1.out.take s.out.length}:Pr.Dk)) 2)
    clear hd13 hg13 Q13
    go_wp2
    (first | go_end0 | refine bodyPost_ret (results_none rfl _ _ _) rfl ?_)
    exact ⟨(_,0),rfl,Pr.Cv.list_for i0 i1 i2 HC2.out HC9.out,v13,HD13.out,HG13.out⟩
   ·have Q11:=hide (takeY HD10.out Pr.sIf #[105,102] rfl i2)
    go_wp2_with fail
    refine Q11.out.mono ?_
    rintro e11 w11 ⟨rfl,v11,hd11,hg11⟩
    have HD11:=hide hd11
    have HG11:=hide (HG10.out.trans hg11)
    have HS11:=hide (HS10.out.adv i2)
    clear hd11 hg11 Q11
    have Q12:=hide (ihE _ HS11.out.ge HS11.out.le _ _ HD11.out (HS11.out.phi (by first | omega | (simp only [Pr.extra];omega)) h0 hN))
    go_wp2_with fail
    refine Q12.out.mono ?_
    rintro e12 w12 ⟨r12,rfl,hc12,v12,hd12,hg12⟩
    have HC12:=hide hc12
    have HD12:=hide hd12
    have HG12:=hide (HG11.out.trans hg12)
    have HS12:=hide (HS11.out.trans (hc12.stp HS11.out.le))
    clear hc12 hd12 hg12 Q12
    have Q13:=hide (needW HD12.out [93] #[93] rfl)
    go_wp2_with fail
    refine Q13.out.mono ?_
    rintro e13 w13 ⟨rfl,v13,hd13,hg13⟩
    have HD13:=hide hd13
    have HG13:=hide (HG12.out.trans hg13)
    have HS13:=hide (HS12.out.need (sz:=sz) [93])
    clear hd13 hg13 Q13
    have Q14:=hide (put_any HD13.out (HS13.out.len (by first | omega | (simp only [Pr.extra];omega)) h0 hN) 16 0 0 (Pr.nameT ts sz ({Pr.adv r2.1 with out:=r2.1.out.take s.out.length}:Pr.Dk)) 3)
    go_wp2_with fail
    refine Q14.out.mono ?_
    rintro e14 w14 ⟨rfl,v14,hd14,hg14⟩
    have HD14:=hide hd14
    have HG14:=hide (HG13.out.trans hg14)
    have HS14:=hide (HS13.out.put 16 0 0 (Pr.nameT ts sz ({Pr.adv r2.1 with out:=r2.1.out.take s.out.length}:Pr.Dk)) 3)
    clear hd14 hg14 Q14
    go_wp2
    (first | go_end0 | refine bodyPost_ret (results_none rfl _ _ _) rfl ?_)
    exact ⟨(_,0),rfl,Pr.Cv.list_forIf i0 i1 i2 HC2.out HC9.out HC12.out,v14,HD14.out,HG14.out⟩
  ·subst hv
   have hcap:(r2.1.out.length:Int)≤(cap:Int):=by have:r2.1.out.length≤cap:=hg3;omega
   have hcap2:(s.out.length:Int)≤(cap:Int):=by omega
   have HROW:=hide hrow
   have hgl:g < w3.heap.size:=(HD3.out.own rfl).2
   have hgb:b < g:=(HD3.out.own rfl).1
   have hd4:=HD3.out.below ((Below.refl w3.heap.size w3).alloc (Nat.le_refl _) (.cells #[] 82))
   have c5:_=some (Value.slice (some ⟨g,0,none⟩) r2.1.out.length cap):=hd4.c5
   have hown:=World.ownsRow_lit (base:=w3.heap.size) (e:=82) (size:=5) w3 #[] 0 (Nat.le_refl _) (Nat.zero_le _) rfl
   have hro4:=hd4.row
   have HRO4:=hide hro4
   have HL:=hide (And.intro hgl hgb)
   have HNW:Hid (∀ (j:Nat) (u:Value),((Tr.cellsOf r2.1.out).drop (s.out.length*5))[j]?=some u→(w3.alloc (.cells #[] 82)).cell? ((if cap=s.out.length then (⟨g,0,none⟩:Addr) else ⟨g,s.out.length*5,none⟩).add j)=some u):=hide (fun j u hu=>by
    by_cases hcf:cap=s.out.length
    ·rw [List.drop_of_length_le (by rw [Tr.cellsOf_lenP];omega)] at hu;simp at hu
    ·rw [if_neg hcf,add_plainP];rw [List.getElem?_drop] at hu;exact row_cellP HRO4.out hu)
   have HOWN:=hide hown
   clear hrow hg1 hg2 hg3 hg4 hg5 hg6 hd4 hgl hgb hown hro4
   by_cases hcf:cap=s.out.length
   ·subst hcf
    go_wp2_with (at_builtin;go_loud (refine wpList_append_own_at _ rfl _ _ 48 rfl w3.heap.size 82 iN _ 5 48 Tryz.underlying48 hNi hNz hNs hNb rfl (by decide) (.slice (some ⟨w3.heap.size,0,none⟩) 0 0) 0 [] rfl HOWN.out ⟨g,0,none⟩ (r2.1.out.length - s.out.length) (s.out.length - s.out.length) ((Tr.cellsOf r2.1.out).drop (s.out.length*5)) (by first | (simp [Act.eval];done) | simp [Act.eval,hcf] | simp [Act.eval,hcf2]) (by rw [List.length_drop,Tr.cellsOf_lenP];omega) (fun j u hu=>by have:=HNW.out j u hu;simpa using this) (fun u hu=>Tr.cellsOf_oneP _ u (List.mem_of_mem_drop hu)) (by unfold maxLen;omega) (by omega) (by simp) ?_);intro v5 w5 a1 a2 a3 a4;have hB5:Below w3.heap.size w3 w5:=((Below.refl _ w3).alloc (Nat.le_refl _) _).grown a2 (by simp) (fun x e=>by cases e;exact Nat.le_refl _);have hd5:=HD3.out.below hB5;have c5:_=some (Value.slice (some ⟨g,0,none⟩) r2.1.out.length s.out.length):=hd5.c5;have f5:=hd5.fr 5;have HD5:=hide hd5;have HA1:=hide a1;have HA3:=hide a3;have HB5:=hide hB5;clear a1 a2 a3 a4 hB5 hd5)
    obtain ⟨hgl,hgb⟩:=HL.out
    have hd6:DK b tg tc ts sz (.slice (some ⟨g,0,none⟩) s.out.length s.out.length) ({Pr.adv r2.1 with out:=r2.1.out.take s.out.length}:Pr.Dk) (w5.setCell ⟨b,5,none⟩ (.slice (some ⟨g,0,none⟩) s.out.length s.out.length)):=HD5.out.putd ⟨rfl,rfl,rfl,Nat.le_refl _,fun _ _ _=>rfl⟩ rfl rfl rfl (by show w5.ownsRow (b+1) 82 5 _ (r2.1.out.take s.out.length).length (Tr.cellsOf (r2.1.out.take s.out.length));rw [Tr.cellsOf_takeP,List.length_take,Nat.min_eq_left hL];exact row_takeP HD5.out.row hL)
    have HD6:=hide hd6
    have HG6:Hid (Pr.Gr b _ (.slice (some ⟨g,0,none⟩) s.out.length s.out.length) w0 (w5.setCell ⟨b,5,none⟩ (.slice (some ⟨g,0,none⟩) s.out.length s.out.length))):=hide ((HG3.out.trans (.below HB5.out)).trans ⟨(Pr.Gr.set _ w5 b 5 (.slice (some ⟨g,0,none⟩) s.out.length s.out.length)).mv,.inl rfl⟩)
    have HS6:Hid (Pr.Stp ts s ({Pr.adv r2.1 with out:=r2.1.out.take s.out.length}:Pr.Dk) 0):=hide ⟨Nat.le_succ_of_le HS2.out.ge,Pr.is_lt i1,by show s.out.length≤(r2.1.out.take s.out.length).length;rw [List.length_take];omega,by show ((r2.1.out.take s.out.length).length:Int)≤_+4*(((r2.1.p+1:Nat):Int) - _)+0;rw [List.length_take];have:=HS2.out.ge;omega⟩
    have HX6:=hide (Pr.Gr.refl b (.slice (some ⟨g,0,none⟩) s.out.length s.out.length) (w5.setCell ⟨b,5,none⟩ (.slice (some ⟨g,0,none⟩) s.out.length s.out.length)))
    rcases HA1.out.2 with ⟨hv,_⟩ | ⟨gb,cb,curb,hv,hb1,hb2,_⟩
    ·exact absurd (HA3.out.1 hv).1 (by simp)
    rw [Nat.zero_add] at hv
    subst hv
    have hA1:=HA1.out
    rw [Nat.zero_add,List.nil_append] at hA1
    have HBC:Hid (∀ (j:Nat) (u:Value),((Tr.cellsOf r2.1.out).drop (s.out.length*5))[j]?=some u→(w5.setCell ⟨b,5,none⟩ (.slice (some ⟨g,0,none⟩) s.out.length s.out.length)).cell? ⟨gb,j,none⟩=some u):=hide (fun j u hu=>(World.cell?_setCell_other _ _ _ _ (fun e=>by have:=congrArg Addr.block e;simp at this;omega)).trans (row_cellP hA1 hu))
    have HBQ:Hid (gb < (w5.setCell ⟨b,5,none⟩ (.slice (some ⟨g,0,none⟩) s.out.length s.out.length)).heap.size∧gb≠b∧((.slice (some ⟨g,0,none⟩) s.out.length s.out.length):Value).ownBlock≠some gb):=hide ⟨by rw [show (w5.setCell ⟨b,5,none⟩ (.slice (some ⟨g,0,none⟩) s.out.length s.out.length)).heap.size=w5.heap.size from by simp];exact (Array.getElem?_eq_some_iff.1 hb2).1,by omega,fun e=>by simp [Value.ownBlock] at e;omega⟩
    clear hd6 hA1 hb1 hb2 HA1 HA3 HD5 HB5 hgl hgb c5 f5
    have HA6:=hide (Pr.Stp.refl HS6.out.le)
    have Q7:=hide (nameW HD6.out)
    go_wp2_with fail
    refine Q7.out.mono ?_
    rintro e7 w7 ⟨rfl,v7,hd7,hg7⟩
    have HD7:=hide hd7
    have HG7:=hide (HG6.out.trans hg7)
    have HS7:=hide (HS6.out.name (sz:=sz))
    have HA7:=hide (HA6.out.name (sz:=sz))
    have HX7:=hide (HX6.out.trans hg7)
    clear hd7 hg7 Q7
    have Q8:=hide (needW HD7.out Pr.sIn #[105,110] rfl)
    go_wp2_with fail
    refine Q8.out.mono ?_
    rintro e8 w8 ⟨rfl,v8,hd8,hg8⟩
    have HD8:=hide hd8
    have HG8:=hide (HG7.out.trans hg8)
    have HS8:=hide (HS7.out.need (sz:=sz) Pr.sIn)
    have HA8:=hide (HA7.out.need (sz:=sz) Pr.sIn)
    have HX8:=hide (HX7.out.trans hg8)
    clear hd8 hg8 Q8
    have Q9:=hide (ihE _ HS8.out.ge HS8.out.le _ _ HD8.out (HS8.out.phi (by first | omega | (simp only [Pr.extra];omega)) h0 hN))
    go_wp2_with fail
    refine Q9.out.mono ?_
    rintro e9 w9 ⟨r9,rfl,hc9,v9,hd9,hg9⟩
    have HC9:=hide hc9
    have HD9:=hide hd9
    have HG9:=hide (HG8.out.trans hg9)
    have HS9:=hide (HS8.out.trans (hc9.stp HS8.out.le))
    have HA9:=hide (HA8.out.trans (hc9.stp HA8.out.le))
    have HX9:=hide (HX8.out.trans hg9)
    clear hc9 hd9 hg9 Q9
    obtain ⟨pk,ck,rfl⟩:=row_formP HD9.out.row
    have hlk:r9.1.out.length≤100000000:=HS9.out.len (by first | omega | (simp only [Pr.extra];omega)) h0 hN
    have c5:=HD9.out.c5
    have HBK:Hid (∀ (j:Nat) (u:Value),((Tr.cellsOf r2.1.out).drop (s.out.length*5))[j]?=some u→w9.cell? ((⟨gb,0,none⟩:Addr).add j)=some u):=hide (fun j u hu=>by rw [add_plainP,Nat.zero_add];exact (HX9.out.cell HBQ.out.1 HBQ.out.2.1 HBQ.out.2.2 j).trans (HBC.out j u hu))
    go_wp2_with (at_builtin;go_loud (refine wpList_append_own_at _ rfl _ _ 48 rfl (b+1) 82 iN _ 5 48 Tryz.underlying48 hNi hNz hNs hNb rfl (by decide) (.slice pk r9.1.out.length ck) r9.1.out.length (Tr.cellsOf r9.1.out) rfl HD9.out.row ⟨gb,0,none⟩ (r2.1.out.length - s.out.length) cb ((Tr.cellsOf r2.1.out).drop (s.out.length*5)) rfl (by rw [List.length_drop,Tr.cellsOf_lenP];omega) HBK.out (fun u hu=>Tr.cellsOf_oneP _ u (List.mem_of_mem_drop hu)) (by unfold maxLen;omega) (by omega) HD9.out.lt ?_);intro vv w10 b1 b2 b3 b4;obtain ⟨pv,cv,rfl⟩:=row_formP b1;have q5:=(World.cell?_of_block (a:=⟨b,5,none⟩) (b2.block b HD9.out.lt (fun e=>by have:=(HD9.out.own e.symm).1;omega))).trans HD9.out.c5;have q6:=(World.frozen?_of_block (a:=⟨b,5,none⟩) (b2.block b HD9.out.lt (fun e=>by have:=(HD9.out.own e.symm).1;omega))).trans (HD9.out.fr 5);have HB1:=hide b1;have HB2:=hide b2;have HB4:=hide b4;clear b1 b2 b3 b4)
    have hdn:DK b tg tc ts sz (.slice pv (r9.1.out.length+(r2.1.out.length - s.out.length)) cv) ({r9.1 with out:=r9.1.out++r2.1.out.drop s.out.length}:Pr.Dk) (w10.setCell ⟨b,5,none⟩ (.slice pv (r9.1.out.length+(r2.1.out.length - s.out.length)) cv)):=HD9.out.putd HB2.out rfl rfl rfl (by show w10.ownsRow (b+1) 82 5 _ (r9.1.out++r2.1.out.drop s.out.length).length (Tr.cellsOf (r9.1.out++r2.1.out.drop s.out.length));rw [List.length_append,List.length_drop,show Tr.cellsOf (r9.1.out++r2.1.out.drop s.out.length)=Tr.cellsOf r9.1.out++Tr.cellsOf (r2.1.out.drop s.out.length) from by unfold Tr.cellsOf;rw [List.flatMap_append],Tr.cellsOf_dropP];exact HB1.out)
    have HD10:=hide hdn
    have HG10:=hide ((HG9.out.trans (.grown HB2.out HB4.out)).trans (.set _ w10 b 5 (.slice pv (r9.1.out.length+(r2.1.out.length - s.out.length)) cv)))
    have HS10:=hide (HS2.out.swap HA9.out rfl (by show (r2.1.out.take s.out.length).length=_;rw [List.length_take];omega))
    clear hdn q5 q6
    cases i2:Pr.is ts sz ({r9.1 with out:=r9.1.out++r2.1.out.drop s.out.length}:Pr.Dk) Pr.sIf
    ·have Q11:=hide (takeN HD10.out Pr.sIf #[105,102] rfl i2)
     go_wp2_with fail
     refine Q11.out.mono ?_
     rintro e11 w11 ⟨rfl,v11,hd11,hg11⟩
     have HD11:=hide hd11
     have HG11:=hide (HG10.out.trans hg11)
     have HS11:=hide (HS10.out)
     clear hd11 hg11 Q11
     have Q12:=hide (needW HD11.out [93] #[93] rfl)
     go_wp2_with fail
     refine Q12.out.mono ?_
     rintro e12 w12 ⟨rfl,v12,hd12,hg12⟩
     have HD12:=hide hd12
     have HG12:=hide (HG11.out.trans hg12)
     have HS12:=hide (HS11.out.need (sz:=sz) [93])
     clear hd12 hg12 Q12
     have Q13:=hide (put_any HD12.out (HS12.out.len (by first | omega | (simp only [Pr.extra];omega)) h0 hN) 16 0 0 (Pr.nameT ts sz ({Pr.adv r2.1 with out:=r2.1.out.take s.out.length}:Pr.Dk)) 2)
     go_wp2_with fail
     refine Q13.out.mono ?_
     rintro e13 w13 ⟨rfl,v13,hd13,hg13⟩
     have HD13:=hide hd13
     have HG13:=hide (HG12.out.trans hg13)
     have HS13:=hide (HS12.out.put 16 0 0 (Pr.nameT ts sz ({Pr.adv r2.1 with out:=r2.1.out.take s.out.length}:Pr.Dk)) 2)
     clear hd13 hg13 Q13
     go_wp2
     (first | go_end0 | refine bodyPost_ret (results_none rfl _ _ _) rfl ?_)
     exact ⟨(_,0),rfl,Pr.Cv.list_for i0 i1 i2 HC2.out HC9.out,v13,HD13.out,HG13.out⟩
    ·have Q11:=hide (takeY HD10.out Pr.sIf #[105,102] rfl i2)
     go_wp2_with fail
     refine Q11.out.mono ?_
     rintro e11 w11 ⟨rfl,v11,hd11,hg11⟩
     have HD11:=hide hd11
     have HG11:=hide (HG10.out.trans hg11)
     have HS11:=hide (HS10.out.adv i2)
     clear hd11 hg11 Q11
     have Q12:=hide (ihE _ HS11.out.ge HS11.out.le _ _ HD11.out (HS11.out.phi (by first | omega | (simp only [Pr.extra];omega)) h0 hN))
     go_wp2_with fail
     refine Q12.out.mono ?_
     rintro e12 w12 ⟨r12,rfl,hc12,v12,hd12,hg12⟩
     have HC12:=hide hc12
     have HD12:=hide hd12
     have HG12:=hide (HG11.out.trans hg12)
     have HS12:=hide (HS11.out.trans (hc12.stp HS11.out.le))
     clear hc12 hd12 hg12 Q12
     have Q13:=hide (needW HD12.out [93] #[93] rfl)
     go_wp2_with fail
     refine Q13.out.mono ?_
     rintro e13 w13 ⟨rfl,v13,hd13,hg13⟩
     have HD13:=hide hd13
     have HG13:=hide (HG12.out.trans hg13)
     have HS13:=hide (HS12.out.need (sz:=sz) [93])
     clear hd13 hg13 Q13
     have Q14:=hide (put_any HD13.out (HS13.out.len (by first | omega | (simp only [Pr.extra];omega)) h0 hN) 16 0 0 (Pr.nameT ts sz ({Pr.adv r2.1 with out:=r2.1.out.take s.out.length}:Pr.Dk)) 3)
     go_wp2_with fail
     refine Q14.out.mono ?_
     rintro e14 w14 ⟨rfl,v14,hd14,hg14⟩
     have HD14:=hide hd14
     have HG14:=hide (HG13.out.trans hg14)
     have HS14:=hide (HS13.out.put 16 0 0 (Pr.nameT ts sz ({Pr.adv r2.1 with out:=r2.1.out.take s.out.length}:Pr.Dk)) 3)
     clear hd14 hg14 Q14
     go_wp2
     (first | go_end0 | refine bodyPost_ret (results_none rfl _ _ _) rfl ?_)
     exact ⟨(_,0),rfl,Pr.Cv.list_forIf i0 i1 i2 HC2.out HC9.out HC12.out,v14,HD14.out,HG14.out⟩
   ·have hcf2:¬ s.out.length=cap:=fun e=>hcf e.symm
    go_wp2_with (at_builtin;go_loud (refine wpList_append_own_at _ rfl _ _ 48 rfl w3.heap.size 82 iN _ 5 48 Tryz.underlying48 hNi hNz hNs hNb rfl (by decide) (.slice (some ⟨w3.heap.size,0,none⟩) 0 0) 0 [] rfl HOWN.out (if cap=s.out.length then ⟨g,0,none⟩ else ⟨g,s.out.length*5,none⟩) (r2.1.out.length - s.out.length) (cap - s.out.length) ((Tr.cellsOf r2.1.out).drop (s.out.length*5)) (by first | (simp [Act.eval];done) | simp [Act.eval,hcf] | simp [Act.eval,hcf2]) (by rw [List.length_drop,Tr.cellsOf_lenP];omega) HNW.out (fun u hu=>Tr.cellsOf_oneP _ u (List.mem_of_mem_drop hu)) (by unfold maxLen;omega) (by omega) (by simp) ?_);intro v5 w5 a1 a2 a3 a4;have hB5:Below w3.heap.size w3 w5:=((Below.refl _ w3).alloc (Nat.le_refl _) _).grown a2 (by simp) (fun x e=>by cases e;exact Nat.le_refl _);have hd5:=HD3.out.below hB5;have c5:_=some (Value.slice (some ⟨g,0,none⟩) r2.1.out.length cap):=hd5.c5;have f5:=hd5.fr 5;have HD5:=hide hd5;have HA1:=hide a1;have HA3:=hide a3;have HB5:=hide hB5;clear a1 a2 a3 a4 hB5 hd5)
    obtain ⟨hgl,hgb⟩:=HL.out
    have hd6:DK b tg tc ts sz (.slice (some ⟨g,0,none⟩) s.out.length cap) ({Pr.adv r2.1 with out:=r2.1.out.take s.out.length}:Pr.Dk) (w5.setCell ⟨b,5,none⟩ (.slice (some ⟨g,0,none⟩) s.out.length cap)):=HD5.out.putd ⟨rfl,rfl,rfl,Nat.le_refl _,fun _ _ _=>rfl⟩ rfl rfl rfl (by show w5.ownsRow (b+1) 82 5 _ (r2.1.out.take s.out.length).length (Tr.cellsOf (r2.1.out.take s.out.length));rw [Tr.cellsOf_takeP,List.length_take,Nat.min_eq_left hL];exact row_takeP HD5.out.row hL)
    have HD6:=hide hd6
    have HG6:Hid (Pr.Gr b _ (.slice (some ⟨g,0,none⟩) s.out.length cap) w0 (w5.setCell ⟨b,5,none⟩ (.slice (some ⟨g,0,none⟩) s.out.length cap))):=hide ((HG3.out.trans (.below HB5.out)).trans ⟨(Pr.Gr.set _ w5 b 5 (.slice (some ⟨g,0,none⟩) s.out.length cap)).mv,.inl rfl⟩)
    have HS6:Hid (Pr.Stp ts s ({Pr.adv r2.1 with out:=r2.1.out.take s.out.length}:Pr.Dk) 0):=hide ⟨Nat.le_succ_of_le HS2.out.ge,Pr.is_lt i1,by show s.out.length≤(r2.1.out.take s.out.length).length;rw [List.length_take];omega,by show ((r2.1.out.take s.out.length).length:Int)≤_+4*(((r2.1.p+1:Nat):Int) - _)+0;rw [List.length_take];have:=HS2.out.ge;omega⟩
    have HX6:=hide (Pr.Gr.refl b (.slice (some ⟨g,0,none⟩) s.out.length cap) (w5.setCell ⟨b,5,none⟩ (.slice (some ⟨g,0,none⟩) s.out.length cap)))
    rcases HA1.out.2 with ⟨hv,_⟩ | ⟨gb,cb,curb,hv,hb1,hb2,_⟩
    ·exact absurd (HA3.out.1 hv).1 (by simp)
    rw [Nat.zero_add] at hv
    subst hv
    have hA1:=HA1.out
    rw [Nat.zero_add,List.nil_append] at hA1
    have HBC:Hid (∀ (j:Nat) (u:Value),((Tr.cellsOf r2.1.out).drop (s.out.length*5))[j]?=some u→(w5.setCell ⟨b,5,none⟩ (.slice (some ⟨g,0,none⟩) s.out.length cap)).cell? ⟨gb,j,none⟩=some u):=hide (fun j u hu=>(World.cell?_setCell_other _ _ _ _ (fun e=>by have:=congrArg Addr.block e;simp at this;omega)).trans (row_cellP hA1 hu))
    have HBQ:Hid (gb < (w5.setCell ⟨b,5,none⟩ (.slice (some ⟨g,0,none⟩) s.out.length cap)).heap.size∧gb≠b∧((.slice (some ⟨g,0,none⟩) s.out.length cap):Value).ownBlock≠some gb):=hide ⟨by rw [show (w5.setCell ⟨b,5,none⟩ (.slice (some ⟨g,0,none⟩) s.out.length cap)).heap.size=w5.heap.size from by simp];exact (Array.getElem?_eq_some_iff.1 hb2).1,by omega,fun e=>by simp [Value.ownBlock] at e;omega⟩
    clear hd6 hA1 hb1 hb2 HA1 HA3 HD5 HB5 hgl hgb c5 f5
    have HA6:=hide (Pr.Stp.refl HS6.out.le)
    have Q7:=hide (nameW HD6.out)
    go_wp2_with fail
    refine Q7.out.mono ?_
    rintro e7 w7 ⟨rfl,v7,hd7,hg7⟩
    have HD7:=hide hd7
    have HG7:=hide (HG6.out.trans hg7)
    have HS7:=hide (HS6.out.name (sz:=sz))
    have HA7:=hide (HA6.out.name (sz:=sz))
    have HX7:=hide (HX6.out.trans hg7)
    clear hd7 hg7 Q7
    have Q8:=hide (needW HD7.out Pr.sIn #[105,110] rfl)
    go_wp2_with fail
    refine Q8.out.mono ?_
    rintro e8 w8 ⟨rfl,v8,hd8,hg8⟩
    have HD8:=hide hd8
    have HG8:=hide (HG7.out.trans hg8)
    have HS8:=hide (HS7.out.need (sz:=sz) Pr.sIn)
    have HA8:=hide (HA7.out.need (sz:=sz) Pr.sIn)
    have HX8:=hide (HX7.out.trans hg8)
    clear hd8 hg8 Q8
    have Q9:=hide (ihE _ HS8.out.ge HS8.out.le _ _ HD8.out (HS8.out.phi (by first | omega | (simp only [Pr.extra];omega)) h0 hN))
    go_wp2_with fail
    refine Q9.out.mono ?_
    rintro e9 w9 ⟨r9,rfl,hc9,v9,hd9,hg9⟩
    have HC9:=hide hc9
    have HD9:=hide hd9
    have HG9:=hide (HG8.out.trans hg9)
    have HS9:=hide (HS8.out.trans (hc9.stp HS8.out.le))
    have HA9:=hide (HA8.out.trans (hc9.stp HA8.out.le))
    have HX9:=hide (HX8.out.trans hg9)
    clear hc9 hd9 hg9 Q9
    obtain ⟨pk,ck,rfl⟩:=row_formP HD9.out.row
    have hlk:r9.1.out.length≤100000000:=HS9.out.len (by first | omega | (simp only [Pr.extra];omega)) h0 hN
    have c5:=HD9.out.c5
    have HBK:Hid (∀ (j:Nat) (u:Value),((Tr.cellsOf r2.1.out).drop (s.out.length*5))[j]?=some u→w9.cell? ((⟨gb,0,none⟩:Addr).add j)=some u):=hide (fun j u hu=>by rw [add_plainP,Nat.zero_add];exact (HX9.out.cell HBQ.out.1 HBQ.out.2.1 HBQ.out.2.2 j).trans (HBC.out j u hu))
    go_wp2_with (at_builtin;go_loud (refine wpList_append_own_at _ rfl _ _ 48 rfl (b+1) 82 iN _ 5 48 Tryz.underlying48 hNi hNz hNs hNb rfl (by decide) (.slice pk r9.1.out.length ck) r9.1.out.length (Tr.cellsOf r9.1.out) rfl HD9.out.row ⟨gb,0,none⟩ (r2.1.out.length - s.out.length) cb ((Tr.cellsOf r2.1.out).drop (s.out.length*5)) rfl (by rw [List.length_drop,Tr.cellsOf_lenP];omega) HBK.out (fun u hu=>Tr.cellsOf_oneP _ u (List.mem_of_mem_drop hu)) (by unfold maxLen;omega) (by omega) HD9.out.lt ?_);intro vv w10 b1 b2 b3 b4;obtain ⟨pv,cv,rfl⟩:=row_formP b1;have q5:=(World.cell?_of_block (a:=⟨b,5,none⟩) (b2.block b HD9.out.lt (fun e=>by have:=(HD9.out.own e.symm).1;omega))).trans HD9.out.c5;have q6:=(World.frozen?_of_block (a:=⟨b,5,none⟩) (b2.block b HD9.out.lt (fun e=>by have:=(HD9.out.own e.symm).1;omega))).trans (HD9.out.fr 5);have HB1:=hide b1;have HB2:=hide b2;have HB4:=hide b4;clear b1 b2 b3 b4)
    have hdn:DK b tg tc ts sz (.slice pv (r9.1.out.length+(r2.1.out.length - s.out.length)) cv) ({r9.1 with out:=r9.1.out++r2.1.out.drop s.out.length}:Pr.Dk) (w10.setCell ⟨b,5,none⟩ (.slice pv (r9.1.out.length+(r2.1.out.length - s.out.length)) cv)):=HD9.out.putd HB2.out rfl rfl rfl (by show w10.ownsRow (b+1) 82 5 _ (r9.1.out++r2.1.out.drop s.out.length).length (Tr.cellsOf (r9.1.out++r2.1.out.drop s.out.length));rw [List.length_append,List.length_drop,show Tr.cellsOf (r9.1.out++r2.1.out.drop s.out.length)=Tr.cellsOf r9.1.out++Tr.cellsOf (r2.1.out.drop s.out.length) from by unfold Tr.cellsOf;rw [List.flatMap_append],Tr.cellsOf_dropP];exact HB1.out)
    have HD10:=hide hdn
    have HG10:=hide ((HG9.out.trans (.grown HB2.out HB4.out)).trans (.set _ w10 b 5 (.slice pv (r9.1.out.length+(r2.1.out.length - s.out.length)) cv)))
    have HS10:=hide (HS2.out.swap HA9.out rfl (by show (r2.1.out.take s.out.length).length=_;rw [List.length_take];omega))
    clear hdn q5 q6
    cases i2:Pr.is ts sz ({r9.1 with out:=r9.1.out++r2.1.out.drop s.out.length}:Pr.Dk) Pr.sIf
    ·have Q11:=hide (takeN HD10.out Pr.sIf #[105,102] rfl i2)
     go_wp2_with fail
     refine Q11.out.mono ?_
     rintro e11 w11 ⟨rfl,v11,hd11,hg11⟩
     have HD11:=hide hd11
     have HG11:=hide (HG10.out.trans hg11)
     have HS11:=hide (HS10.out)
     clear hd11 hg11 Q11
     have Q12:=hide (needW HD11.out [93] #[93] rfl)
     go_wp2_with fail
     refine Q12.out.mono ?_
     rintro e12 w12 ⟨rfl,v12,hd12,hg12⟩
     have HD12:=hide hd12
     have HG12:=hide (HG11.out.trans hg12)
     have HS12:=hide (HS11.out.need (sz:=sz) [93])
     clear hd12 hg12 Q12
     have Q13:=hide (put_any HD12.out (HS12.out.len (by first | omega | (simp only [Pr.extra];omega)) h0 hN) 16 0 0 (Pr.nameT ts sz ({Pr.adv r2.1 with out:=r2.1.out.take s.out.length}:Pr.Dk)) 2)
     go_wp2_with fail
     refine Q13.out.mono ?_
     rintro e13 w13 ⟨rfl,v13,hd13,hg13⟩
     have HD13:=hide hd13
     have HG13:=hide (HG12.out.trans hg13)
     have HS13:=hide (HS12.out.put 16 0 0 (Pr.nameT ts sz ({Pr.adv r2.1 with out:=r2.1.out.take s.out.length}:Pr.Dk)) 2)
     clear hd13 hg13 Q13
     go_wp2
     (first | go_end0 | refine bodyPost_ret (results_none rfl _ _ _) rfl ?_)
     exact ⟨(_,0),rfl,Pr.Cv.list_for i0 i1 i2 HC2.out HC9.out,v13,HD13.out,HG13.out⟩
    ·have Q11:=hide (takeY HD10.out Pr.sIf #[105,102] rfl i2)
     go_wp2_with fail
     refine Q11.out.mono ?_
     rintro e11 w11 ⟨rfl,v11,hd11,hg11⟩
     have HD11:=hide hd11
     have HG11:=hide (HG10.out.trans hg11)
     have HS11:=hide (HS10.out.adv i2)
     clear hd11 hg11 Q11
     have Q12:=hide (ihE _ HS11.out.ge HS11.out.le _ _ HD11.out (HS11.out.phi (by first | omega | (simp only [Pr.extra];omega)) h0 hN))
     go_wp2_with fail
     refine Q12.out.mono ?_
     rintro e12 w12 ⟨r12,rfl,hc12,v12,hd12,hg12⟩
     have HC12:=hide hc12
     have HD12:=hide hd12
     have HG12:=hide (HG11.out.trans hg12)
     have HS12:=hide (HS11.out.trans (hc12.stp HS11.out.le))
     clear hc12 hd12 hg12 Q12
     have Q13:=hide (needW HD12.out [93] #[93] rfl)
     go_wp2_with fail
     refine Q13.out.mono ?_
     rintro e13 w13 ⟨rfl,v13,hd13,hg13⟩
     have HD13:=hide hd13
     have HG13:=hide (HG12.out.trans hg13)
     have HS13:=hide (HS12.out.need (sz:=sz) [93])
     clear hd13 hg13 Q13
     have Q14:=hide (put_any HD13.out (HS13.out.len (by first | omega | (simp only [Pr.extra];omega)) h0 hN) 16 0 0 (Pr.nameT ts sz ({Pr.adv r2.1 with out:=r2.1.out.take s.out.length}:Pr.Dk)) 3)
     go_wp2_with fail
     refine Q14.out.mono ?_
     rintro e14 w14 ⟨rfl,v14,hd14,hg14⟩
     have HD14:=hide hd14
     have HG14:=hide (HG13.out.trans hg14)
     have HS14:=hide (HS13.out.put 16 0 0 (Pr.nameT ts sz ({Pr.adv r2.1 with out:=r2.1.out.take s.out.length}:Pr.Dk)) 3)
     clear hd14 hg14 Q14
     go_wp2
     (first | go_end0 | refine bodyPost_ret (results_none rfl _ _ _) rfl ?_)
     exact ⟨(_,0),rfl,Pr.Cv.list_forIf i0 i1 i2 HC2.out HC9.out HC12.out,v14,HD14.out,HG14.out⟩
end Go.Proofs.YtbckhbeebngjfaaGreatDoor
