/- Hp, Vc. -/
import Derived.Test.YtimbaebigjjkaaaGreatDoorP06
import Derived.Test.YtimbaebigjjkaaaGreatDoorP01
namespace Go.Proofs.YtimbaebigjjkaaaGreatDoor
open Go.RowKit
set_option maxRecDepth 100000 in
set_option maxHeartbeats 8000000 in
theorem list_nil {b tg tc:Nat} {ts:List Sc.T} {sz:Nat} {s:Pr.Dk} (i0:Xa ts sz s [93]=true):Pr.SL b tg tc ts sz s:=by
 intro v0 w0 a hN
 obtain ⟨p0,cp0,rfl⟩:=Xc a.row
 have h0:=a.le
 have hm:=a.most
 have HD0:=X1 a
 have HG0:=X1 (Pr.Gr.refl b (.slice p0 s.o.length cp0) w0)
 have HS0:=X1 (Pr.Stp.refl h0)
 clear a
 go_enter Tryz.func125,Tryz.ntmps125
 have Q1:=X1 (YC HD0.o [93] #[93] rfl i0)
 go_wp2_with fail
 refine Q1.o.mono ?_
 rintro e1 w1 ⟨rfl,v1,hd1,hg1⟩
 have HD1:=X1 hd1
 have HG1:=X1 (HG0.o.trans hg1)
 have HS1:=X1 (HS0.o.adv i0)
 clear hd1 hg1 Q1
 have Q2:=X1 (XR HD1.o (HS1.o.len (by first | omega | (simp only [X6];omega)) h0 hN) 8 0 0 [] 0)
 go_wp2_with fail
 refine Q2.o.mono ?_
 rintro e2 w2 ⟨rfl,v2,hd2,hg2⟩
 have HD2:=X1 hd2
 have HG2:=X1 (HG1.o.trans hg2)
 have HS2:=X1 (HS1.o.put 8 0 0 [] 0)
 clear hd2 hg2 Q2
 go_wp2
 (first | go_end0 | refine bodyPost_ret (results_none rfl _ _ _) rfl ?_)
 exact ⟨(_,0),rfl,Pr.Cv.list_nil i0,v2,HD2.o,HG2.o⟩
theorem row_takeP {w:World} {B e size n k g c:Nat} {xs:List Value} (h:w.ownsRow B e size (.slice (some ⟨g,0,none⟩) n c) n xs) (hk:k≤n):w.ownsRow B e size (.slice (some ⟨g,0,none⟩) k c) k (xs.take (k * size)):=by
 have hks:k * size≤n * size:=Nat.mul_le_mul_right _ hk
 rcases h.2 with ⟨h1,_⟩ | ⟨g',c',cur,hv,h2,h3,h4,h5,h6,h7⟩
 ·cases h1
 ·cases hv
  refine ⟨by rw [List.length_take,h.1];omega,.inr ⟨g,c,cur,rfl,h2,h3,by omega,h5,h6,?_⟩⟩
  rw [← h7,List.take_take,Nat.min_eq_left hks]
theorem Qr (l:List Tr.Nd) (k:Nat):X2 (l.take k)=(X2 l).take (k*5):=by
 induction l generalizing k with
 | nil=>simp [X2]
 | cons x r ih =>
  cases k with
  | zero=>simp [X2]
  | succ k =>
   have hx:x.cells.length=5:=rfl
   rw [List.take_succ_cons,show X2 (x :: r.take k)=x.cells++X2 (r.take k) from rfl,show X2 (x :: r)=x.cells++X2 r from rfl,ih,List.take_append,List.take_of_length_le (l:=x.cells) (by omega),hx,show (k+1)*5 - 5=k*5 from by omega]
theorem Qs (l:List Tr.Nd) (k:Nat):X2 (l.drop k)=(X2 l).drop (k*5):=by
 induction l generalizing k with
 | nil=>simp [X2]
 | cons x r ih =>
  cases k with
  | zero=>simp
  | succ k =>
   have hx:x.cells.length=5:=rfl
   rw [List.drop_succ_cons,ih,show X2 (x :: r)=x.cells++X2 r from rfl,List.drop_append,List.drop_of_length_le (l:=x.cells) (by omega),hx,show (k+1)*5 - 5=k*5 from by omega,List.nil_append]
theorem ZH (l:List Tr.Nd):(X2 l).length=l.length*5:=by
 induction l with
 | nil=>rfl
 | cons x r ih=>rw [show X2 (x :: r)=x.cells++X2 r from rfl,List.length_append,ih,List.length_cons];simp [Tr.Nd.cells];omega
theorem K3 (l:List Tr.Nd):∀ u∈X2 l,u.oneCell'=true:=by
 intro u hu
 unfold X2 at hu
 obtain ⟨d,_,h⟩:=List.mem_flatMap.1 hu
 exact Tr.nd_oneP d u h
theorem ZK {w:World} {B e size n g c:Nat} {xs:List Value} (h:w.ownsRow B e size (.slice (some ⟨g,0,none⟩) n c) n xs) {j:Nat} {u:Value} (hu:xs[j]?=some u):w.cell? ⟨g,j,none⟩=some u:=by
 rcases h.2 with ⟨h1,_⟩ | ⟨g',c',cur,hv,h2,h3,h4,h5,h6,h7⟩
 ·cases h1
 ·cases hv
  rw [← h7] at hu
  rw [List.getElem?_take] at hu
  split at hu
  ·rw [World.cell?,h3];simpa using hu
  ·cases hu
set_option maxRecDepth 100000 in
set_option maxHeartbeats 8000000 in
theorem list_says {b tg tc:Nat} {ts:List Sc.T} {sz:Nat} {s:Pr.Dk} (i0:Xa ts sz s [93]=false) (ihE:∀ q:Pr.Dk,s.p≤q.p→q.p≤ts.length→Pr.SE b tg tc ts sz q):Pr.SL b tg tc ts sz s:=by
 obtain ⟨iN,g9,j1,h8,h3⟩:=info_parts Tryz.infoNdP
 intro v0 w0 i6 hN
 obtain ⟨p0,cp0,rfl⟩:=Xc i6.row
 have h0:=i6.le
 have hm:=i6.most
 have HD0:=X1 i6
 have HG0:=X1 (Pr.Gr.refl b (.slice p0 s.o.length cp0) w0)
 have HS0:=X1 (Pr.Stp.refl h0)
 clear i6
 go_enter Tryz.func125,Tryz.ntmps125
 have Q1:=X1 (XU HD0.o [93] #[93] rfl i0)
 go_wp2_with fail
 refine Q1.o.mono ?_
 rintro e1 w1 ⟨rfl,v1,hd1,l0⟩
 have l9:=X1 hd1
 have HG1:=X1 (HG0.o.trans l0)
 have i5:=X1 (HS0.o)
 clear hd1 l0 Q1
 obtain ⟨p1,cp1,rfl⟩:=Xc l9.o.row
 have c5:=l9.o.c5
 have Q2:=X1 (ihE _ i5.o.ge i5.o.le _ _ l9.o (i5.o.phi (by first | omega | (simp only [X6];omega)) h0 hN))
 go_wp2_with fail
 refine Q2.o.mono ?_
 rintro e2 w2 ⟨r2,rfl,l6,v2,hd2,l1⟩
 have d9:=X1 l6
 have HD2:=X1 hd2
 have HG2:=X1 (HG1.o.trans l1)
 have U:=X1 (i5.o.trans (l6.stp i5.o.le))
 clear l6 hd2 l1 Q2
 clear c5
 cases i1:Xa ts sz r2.1 QE
 ·have Q3:=X1 (XU HD2.o QE #[102,111,114] rfl i1)
  go_wp2_with fail
  refine Q3.o.mono ?_
  rintro e3 w3 ⟨rfl,v3,f6,c7⟩
  have a8:=X1 f6
  have k1:=X1 (HG2.o.trans c7)
  have HS3:=X1 (U.o)
  clear f6 c7 Q3
  have HI:=X1 (show ∀ rr,Pr.Cv ts sz (.listL 1) r2.1 rr→Pr.Cv ts sz .list s (Xj (Xr ts sz rr.1 [93]) 8 0 0 [] rr.2,0) from fun _ h=>Pr.Cv.list_list i0 i1 d9.o h)
  go_wp2_with fail
  go_loopw [6] (fun t wr=>∃ (n:Nat) (q:Pr.Dk) (vq:Value),t = .int .i64 n∧n≤q.p+1∧DK b tg tc ts sz vq q wr∧Pr.Gr b (.slice p0 s.o.length cp0) vq w0 wr∧Pr.Stp ts s q 0∧∀ rr,Pr.Cv ts sz (.listL n) q rr→Pr.Cv ts sz .list s (Xj (Xr ts sz rr.1 [93]) 8 0 0 [] rr.2,0)) (fun _ wr=>XQ b ts wr)
  case atStart=>exact ⟨1,_,v3,rfl,by omega,a8.o,k1.o,HS3.o.mono (by first | omega | (simp only [X6];omega)),HI.o⟩
  case round =>
   obtain ⟨n,q,v30,rfl,hnp,d4,j7,g8,i3⟩:=hrel
   have hle:=d4.le
   have d5:=X1 d4
   have i7:=X1 j7
   have e5:=X1 g8
   have i8:=X1 i3
   clear d4 j7 g8 i3 HI
   cases ic:Xa ts sz q [44]
   ·have k7:=X1 (XU d5.o [44] #[44] rfl ic)
    go_wp2_with fail
    refine k7.o.mono ?_
    rintro e31 w31 ⟨rfl,v31,W,V⟩
    have e6:=X1 W
    have d6:=X1 (i7.o.trans V)
    have Q:=X1 (e5.o)
    clear W V k7
    have h7:=X1 (Yc e6.o [93] #[93] rfl)
    go_wp2_with fail
    refine h7.o.mono ?_
    rintro e32 w32 ⟨rfl,v32,Y,a5⟩
    have b7:=X1 Y
    have f2:=X1 (d6.o.trans a5)
    have b8:=X1 (Q.o.need (sz:=sz) [93])
    clear Y a5 h7
    have Q33:=X1 (XR b7.o (b8.o.len (by first | omega | (simp only [X6];omega)) h0 hN) 8 0 0 [] n)
    go_wp2_with fail
    refine Q33.o.mono ?_
    rintro e33 w33 ⟨rfl,v33,f8,k2⟩
    have m0:=X1 f8
    have l4:=X1 (f2.o.trans k2)
    have HS33:=X1 (b8.o.put 8 0 0 [] n)
    clear f8 k2 Q33
    go_wp2
    (first | go_end0 | refine bodyPost_ret (results_none rfl _ _ _) rfl ?_)
    exact ⟨(_,0),rfl,i8.o _ (Pr.Cv.listL_end ic),v33,m0.o,l4.o⟩
   ·have k7:=X1 (YC d5.o [44] #[44] rfl ic)
    go_wp2_with fail
    refine k7.o.mono ?_
    rintro e31 w31 ⟨rfl,v31,W,V⟩
    have e6:=X1 W
    have d6:=X1 (i7.o.trans V)
    have Q:=X1 (e5.o.adv ic)
    clear W V k7
    have d8:=X1 (Pr.Stp.refl Q.o.le)
    have h7:=X1 (ihE _ (Nat.le_trans (Nat.le_succ_of_le e5.o.ge) d8.o.ge) Q.o.le _ _ e6.o (Q.o.phi (by first | omega | (simp only [X6];omega)) h0 hN))
    go_wp2_with fail
    refine h7.o.mono ?_
    rintro e32 w32 ⟨r32,rfl,b5,v32,Y,a5⟩
    have m1:=X1 b5
    have b7:=X1 Y
    have f2:=X1 (d6.o.trans a5)
    have b8:=X1 (Q.o.trans (b5.stp Q.o.le))
    have g1:=X1 (d8.o.trans (b5.stp d8.o.le))
    clear b5 Y a5 h7
    have HM:=X1 (show XQ b ts w32 < XQ b ts wr from by rw [b7.o.left,d5.o.left];have:=g1.o.ge;have:=XG ic;rw [Pr.adv_p] at *;omega)
    have HNP:=X1 (show n+1≤r32.1.p+1 from by have:=g1.o.ge;rw [Pr.adv_p] at *;omega)
    go_wp2
    go_roundw
    case rel=>exact ⟨n+1,_,v32,by go_num,HNP.o,b7.o,f2.o,b8.o.mono (by first | omega | (simp only [X6];omega)),fun _ h=>i8.o _ (Pr.Cv.listL_go ic m1.o h)⟩
    case measure=>exact HM.o
 ·have Q3:=X1 (YC HD2.o QE #[102,111,114] rfl i1)
  go_wp2_with fail
  refine Q3.o.mono ?_
  rintro e3 w3 ⟨rfl,v3,f6,c7⟩
  have a8:=X1 f6
  have k1:=X1 (HG2.o.trans c7)
  have HS3:=X1 (U.o.adv i1)
  clear f6 c7 Q3
  have hL:s.o.length≤r2.1.o.length:=U.o.more
  have hLB:r2.1.o.length≤100000000:=U.o.len (by first | omega | (simp only [X6];omega)) h0 hN
  have hL1:(s.o.length:Int)≤(r2.1.o.length:Int):=by omega
  have b6:=a8.o.row
  rcases b6.2 with ⟨hv,hz⟩ | ⟨g,cap,cur,hv,l0,l1,c7,hg4,hg5,hg6⟩
  ·have hz0:r2.1.o.length=0:=hz
   have hs0:s.o.length=0:=by omega
   have hs1:(s.o.length:Int)=0:=by omega
   subst hv
   have g7:r2.1.o=[]:=List.eq_nil_of_length_eq_zero hz0
   have htk:r2.1.o.take s.o.length=[]:=by rw [g7];simp
   have g5:r2.1.o.drop s.o.length=[]:=by rw [g7];simp
   have bA:=(Below.refl w3.heap.size w3).alloc (Nat.le_refl _) (.cells #[] 35)
   have c6:=a8.o.below bA
   have c5:_=some (Value.slice none 0 0):=c6.c5
   have f5:=c6.fr 5
   have hl3:=a8.o.lt
   have c1:DK b tg tc ts sz (.slice none 0 0) ({X7 r2.1 with o:=r2.1.o.take s.o.length}:Pr.Dk) ((w3.alloc (.cells #[] 35)).setCell ⟨b,5,none⟩ (.slice none 0 0)):=c6.putd ⟨rfl,rfl,rfl,Nat.le_refl _,fun _ _ _=>rfl⟩ rfl rfl rfl (by show World.ownsRow _ (b+1) 35 5 _ (r2.1.o.take s.o.length).length (X2 (r2.1.o.take s.o.length));rw [htk];exact World.ownsRow_nil _ _ _ _)
   have g4:=X1 c1
   have j8:Hid (Pr.Gr b _ (.slice none 0 0) w0 ((w3.alloc (.cells #[] 35)).setCell ⟨b,5,none⟩ (.slice none 0 0))):=X1 ((k1.o.trans (.below bA)).trans (Pr.Gr.set _ _ b 5 (.slice none 0 0)))
   have c2:Hid (Pr.Stp ts s ({X7 r2.1 with o:=r2.1.o.take s.o.length}:Pr.Dk) 0):=X1 ⟨Nat.le_succ_of_le U.o.ge,XG i1,by show s.o.length≤(r2.1.o.take s.o.length).length;rw [List.length_take];omega,by show ((r2.1.o.take s.o.length).length:Int)≤_+4*(((r2.1.p+1:Nat):Int) - _)+0;rw [List.length_take];have:=U.o.ge;omega⟩
   clear b6 c6 c1 bA hl3 hz
   go_wp2_with fail
   clear c5 f5
   have h2:=X1 (Pr.Stp.refl c2.o.le)
   have Q7:=X1 (Q0 g4.o)
   go_wp2_with fail
   refine Q7.o.mono ?_
   rintro e7 w7 ⟨rfl,v7,d3,b0⟩
   have h6:=X1 d3
   have g3:=X1 (j8.o.trans b0)
   have j3:=X1 (c2.o.name (sz:=sz))
   have j9:=X1 (h2.o.name (sz:=sz))
   clear d3 b0 Q7
   have Q8:=X1 (Yc h6.o ZD #[105,110] rfl)
   go_wp2_with fail
   refine Q8.o.mono ?_
   rintro e8 w8 ⟨rfl,v8,c8,a7⟩
   have f7:=X1 c8
   have g2:=X1 (g3.o.trans a7)
   have P:=X1 (j3.o.need (sz:=sz) ZD)
   have c9:=X1 (j9.o.need (sz:=sz) ZD)
   clear c8 a7 Q8
   have Q9:=X1 (ihE _ P.o.ge P.o.le _ _ f7.o (P.o.phi (by first | omega | (simp only [X6];omega)) h0 hN))
   go_wp2_with fail
   refine Q9.o.mono ?_
   rintro e9 w9 ⟨r9,rfl,S,v9,d0,a9⟩
   have c0:=X1 S
   have i:=X1 d0
   have k6:=X1 (g2.o.trans a9)
   have i4:=X1 (P.o.trans (S.stp P.o.le))
   have j6:=X1 (c9.o.trans (S.stp c9.o.le))
   clear S d0 a9 Q9
   obtain ⟨pk,ck,rfl⟩:=Xc i.o.row
   have hlk:r9.1.o.length≤100000000:=i4.o.len (by first | omega | (simp only [X6];omega)) h0 hN
   have c5:=i.o.c5
   go_wp2_with (at_builtin;go_loud (refine wpList_append_own_at _ rfl _ _ 23 rfl (b+1) 35 iN _ 5 48 Tryz.underlying23 g9 j1 h8 h3 rfl (by decide) (.slice pk r9.1.o.length ck) r9.1.o.length (X2 r9.1.o) rfl i.o.row ⟨w3.heap.size,0,none⟩ 0 0 [] rfl rfl (fun j u hu=>by simp at hu) (fun u hu=>by simp at hu) (by unfold maxLen;omega) (by omega) i.o.lt ?_);intro vv Z b1 b2 b3 b4;rw [Nat.add_zero,List.append_nil] at b1;obtain ⟨pv,cv,rfl⟩:=Xc b1;have q5:=(World.cell?_of_block (a:=⟨b,5,none⟩) (b2.block b i.o.lt (fun e=>by have:=(i.o.own e.symm).1;omega))).trans i.o.c5;have q6:=(World.frozen?_of_block (a:=⟨b,5,none⟩) (b2.block b i.o.lt (fun e=>by have:=(i.o.own e.symm).1;omega))).trans (i.o.fr 5);have h5:=X1 b1;have c3:=X1 b2;have j0:=X1 b4;clear b1 b2 b3 b4)
   have d1:DK b tg tc ts sz (.slice pv r9.1.o.length cv) ({r9.1 with o:=r9.1.o++r2.1.o.drop s.o.length}:Pr.Dk) (Z.setCell ⟨b,5,none⟩ (.slice pv r9.1.o.length cv)):=i.o.putd c3.o rfl rfl rfl (by show Z.ownsRow (b+1) 35 5 _ (r9.1.o++r2.1.o.drop s.o.length).length (X2 (r9.1.o++r2.1.o.drop s.o.length));rw [g5,List.append_nil];exact h5.o)
   have L:=X1 d1
   have H:=X1 ((k6.o.trans (.grown c3.o j0.o)).trans (.set _ Z b 5 (.slice pv r9.1.o.length cv)))
   have O:=X1 (U.o.swap j6.o rfl (by show (r2.1.o.take s.o.length).length=_;rw [List.length_take];omega))
   clear d1 q5 q6
   cases i2:Xa ts sz ({r9.1 with o:=r9.1.o++r2.1.o.drop s.o.length}:Pr.Dk) Zo
   ·have J:=X1 (XU L.o Zo #[105,102] rfl i2)
    go_wp2_with fail
    refine J.o.mono ?_
    rintro k5 k8 ⟨rfl,g6,m,l⟩
    have A:=X1 m
    have F:=X1 (H.o.trans l)
    have c:=X1 (O.o)
    clear m l J
    have M:=X1 (Yc A.o [93] #[93] rfl)
    go_wp2_with fail
    refine M.o.mono ?_
    rintro h1 j4 ⟨rfl,j2,d,k⟩
    have D:=X1 d
    have z:=X1 (F.o.trans k)
    have v:=X1 (c.o.need (sz:=sz) [93])
    clear d k M
    have K:=X1 (XR D.o (v.o.len (by first | omega | (simp only [X6];omega)) h0 hN) 16 0 0 (Xd ts sz ({X7 r2.1 with o:=r2.1.o.take s.o.length}:Pr.Dk)) 2)
    go_wp2_with fail
    refine K.o.mono ?_
    rintro k0 f9 ⟨rfl,d2,r,f⟩
    have E:=X1 r
    have C:=X1 (z.o.trans f)
    have B:=X1 (v.o.put 16 0 0 (Xd ts sz ({X7 r2.1 with o:=r2.1.o.take s.o.length}:Pr.Dk)) 2)
    clear r f K
    go_wp2
    (first | go_end0 | refine bodyPost_ret (results_none rfl _ _ _) rfl ?_)
    exact ⟨(_,0),rfl,Pr.Cv.list_for i0 i1 i2 d9.o c0.o,d2,E.o,C.o⟩
   ·have J:=X1 (YC L.o Zo #[105,102] rfl i2)
    go_wp2_with fail
    refine J.o.mono ?_
    rintro k5 k8 ⟨rfl,g6,m,l⟩
    have A:=X1 m
    have F:=X1 (H.o.trans l)
    have c:=X1 (O.o.adv i2)
    clear m l J
    have M:=X1 (ihE _ c.o.ge c.o.le _ _ A.o (c.o.phi (by first | omega | (simp only [X6];omega)) h0 hN))
    go_wp2_with fail
    refine M.o.mono ?_
    rintro h1 j4 ⟨r12,rfl,y,j2,d,k⟩
    have X:=X1 y
    have D:=X1 d
    have z:=X1 (F.o.trans k)
    have v:=X1 (c.o.trans (y.stp c.o.le))
    clear y d k M
    have K:=X1 (Yc D.o [93] #[93] rfl)
    go_wp2_with fail
    refine K.o.mono ?_
    rintro k0 f9 ⟨rfl,d2,r,f⟩
    have E:=X1 r
    have C:=X1 (z.o.trans f)
    have B:=X1 (v.o.need (sz:=sz) [93])
    clear r f K
    have c4:=X1 (XR E.o (B.o.len (by first | omega | (simp only [X6];omega)) h0 hN) 16 0 0 (Xd ts sz ({X7 r2.1 with o:=r2.1.o.take s.o.length}:Pr.Dk)) 3)
    go_wp2_with fail
    refine c4.o.mono ?_
    rintro e14 w14 ⟨rfl,h9,I,N⟩
    have a0:=X1 I
    have a6:=X1 (C.o.trans N)
    have k4:=X1 (B.o.put 16 0 0 (Xd ts sz ({X7 r2.1 with o:=r2.1.o.take s.o.length}:Pr.Dk)) 3)
    clear I N c4
    go_wp2
    (first | go_end0 | refine bodyPost_ret (results_none rfl _ _ _) rfl ?_)
    exact ⟨(_,0),rfl,Pr.Cv.list_forIf i0 i1 i2 d9.o c0.o X.o,h9,a0.o,a6.o⟩
  ·subst hv
   have hcap:(r2.1.o.length:Int)≤(cap:Int):=by have:r2.1.o.length≤cap:=c7;omega
   have hcap2:(s.o.length:Int)≤(cap:Int):=by omega
   have HROW:=X1 b6
   have f4:g < w3.heap.size:=(a8.o.own rfl).2
   have f3:b < g:=(a8.o.own rfl).1
   have c6:=a8.o.below ((Below.refl w3.heap.size w3).alloc (Nat.le_refl _) (.cells #[] 35))
   have c5:_=some (Value.slice (some ⟨g,0,none⟩) r2.1.o.length cap):=c6.c5
   have g0:=World.ownsRow_lit (base:=w3.heap.size) (e:=35) (size:=5) w3 #[] 0 (Nat.le_refl _) (Nat.zero_le _) rfl
   have j5:=c6.row
   have l2:=X1 j5
   have HL:=X1 (And.intro f4 f3)
   have HNW:Hid (∀ (j:Nat) (u:Value),((X2 r2.1.o).drop (s.o.length*5))[j]?=some u→(w3.alloc (.cells #[] 35)).cell? ((if cap=s.o.length then (⟨g,0,none⟩:Addr) else ⟨g,s.o.length*5,none⟩).add j)=some u):=X1 (fun j u hu=>by
    by_cases hcf:cap=s.o.length
    ·rw [List.drop_of_length_le (by rw [ZH];omega)] at hu;simp at hu
    ·rw [if_neg hcf,Xl];rw [List.getElem?_drop] at hu;exact ZK l2.o hu)
   have k9:=X1 g0
   clear b6 l0 l1 c7 hg4 hg5 hg6 c6 f4 f3 g0 j5
   by_cases hcf:cap=s.o.length
   ·subst hcf
    go_wp2_with (at_builtin;go_loud (refine wpList_append_own_at _ rfl _ _ 23 rfl w3.heap.size 35 iN _ 5 48 Tryz.underlying23 g9 j1 h8 h3 rfl (by decide) (.slice (some ⟨w3.heap.size,0,none⟩) 0 0) 0 [] rfl k9.o ⟨g,0,none⟩ (r2.1.o.length - s.o.length) (s.o.length - s.o.length) ((X2 r2.1.o).drop (s.o.length*5)) (by first | (simp [Act.eval];done) | simp [Act.eval,hcf] | simp [Act.eval,k3]) (by rw [List.length_drop,ZH];omega) (fun j u hu=>by have:=HNW.o j u hu;simpa using this) (fun u hu=>K3 _ u (List.mem_of_mem_drop hu)) (by unfold maxLen;omega) (by omega) (by simp) ?_);intro v5 w5 a1 a2 a3 a4;have f0:Below w3.heap.size w3 w5:=((Below.refl _ w3).alloc (Nat.le_refl _) _).grown a2 (by simp) (fun x e=>by cases e;exact Nat.le_refl _);have b9:=a8.o.below f0;have c5:_=some (Value.slice (some ⟨g,0,none⟩) r2.1.o.length s.o.length):=b9.c5;have f5:=b9.fr 5;have d7:=X1 b9;have f1:=X1 a1;have h4:=X1 a3;have i9:=X1 f0;clear a1 a2 a3 a4 f0 b9)
    obtain ⟨f4,f3⟩:=HL.o
    have c1:DK b tg tc ts sz (.slice (some ⟨g,0,none⟩) s.o.length s.o.length) ({X7 r2.1 with o:=r2.1.o.take s.o.length}:Pr.Dk) (w5.setCell ⟨b,5,none⟩ (.slice (some ⟨g,0,none⟩) s.o.length s.o.length)):=d7.o.putd ⟨rfl,rfl,rfl,Nat.le_refl _,fun _ _ _=>rfl⟩ rfl rfl rfl (by show w5.ownsRow (b+1) 35 5 _ (r2.1.o.take s.o.length).length (X2 (r2.1.o.take s.o.length));rw [Qr,List.length_take,Nat.min_eq_left hL];exact row_takeP d7.o.row hL)
    have g4:=X1 c1
    have j8:Hid (Pr.Gr b _ (.slice (some ⟨g,0,none⟩) s.o.length s.o.length) w0 (w5.setCell ⟨b,5,none⟩ (.slice (some ⟨g,0,none⟩) s.o.length s.o.length))):=X1 ((k1.o.trans (.below i9.o)).trans ⟨(Pr.Gr.set _ w5 b 5 (.slice (some ⟨g,0,none⟩) s.o.length s.o.length)).mv,.inl rfl⟩)
    have c2:Hid (Pr.Stp ts s ({X7 r2.1 with o:=r2.1.o.take s.o.length}:Pr.Dk) 0):=X1 ⟨Nat.le_succ_of_le U.o.ge,XG i1,by show s.o.length≤(r2.1.o.take s.o.length).length;rw [List.length_take];omega,by show ((r2.1.o.take s.o.length).length:Int)≤_+4*(((r2.1.p+1:Nat):Int) - _)+0;rw [List.length_take];have:=U.o.ge;omega⟩
    have m2:=X1 (Pr.Gr.refl b (.slice (some ⟨g,0,none⟩) s.o.length s.o.length) (w5.setCell ⟨b,5,none⟩ (.slice (some ⟨g,0,none⟩) s.o.length s.o.length)))
    rcases f1.o.2 with ⟨hv,_⟩ | ⟨gb,cb,curb,hv,hb1,hb2,_⟩
    ·exact absurd (h4.o.1 hv).1 (by simp)
    rw [Nat.zero_add] at hv
    subst hv
    have e0:=f1.o
    rw [Nat.zero_add,List.nil_append] at e0
    have m3:Hid (∀ (j:Nat) (u:Value),((X2 r2.1.o).drop (s.o.length*5))[j]?=some u→(w5.setCell ⟨b,5,none⟩ (.slice (some ⟨g,0,none⟩) s.o.length s.o.length)).cell? ⟨gb,j,none⟩=some u):=X1 (fun j u hu=>(World.cell?_setCell_other _ _ _ _ (fun e=>by have:=congrArg Addr.block e;simp at this;omega)).trans (ZK e0 hu))
    have e4:Hid (gb < (w5.setCell ⟨b,5,none⟩ (.slice (some ⟨g,0,none⟩) s.o.length s.o.length)).heap.size∧gb≠b∧((.slice (some ⟨g,0,none⟩) s.o.length s.o.length):Value).ownBlock≠some gb):=X1 ⟨by rw [show (w5.setCell ⟨b,5,none⟩ (.slice (some ⟨g,0,none⟩) s.o.length s.o.length)).heap.size=w5.heap.size from by simp];exact (Array.getElem?_eq_some_iff.1 hb2).1,by omega,fun e=>by simp [Value.ownBlock] at e;omega⟩
    clear c1 e0 hb1 hb2 f1 h4 d7 i9 f4 f3 c5 f5
    have h2:=X1 (Pr.Stp.refl c2.o.le)
    have Q7:=X1 (Q0 g4.o)
    go_wp2_with fail
    refine Q7.o.mono ?_
    rintro e7 w7 ⟨rfl,v7,d3,b0⟩
    have h6:=X1 d3
    have g3:=X1 (j8.o.trans b0)
    have j3:=X1 (c2.o.name (sz:=sz))
    have j9:=X1 (h2.o.name (sz:=sz))
    have l7:=X1 (m2.o.trans b0)
    clear d3 b0 Q7
    have Q8:=X1 (Yc h6.o ZD #[105,110] rfl)
    go_wp2_with fail
    refine Q8.o.mono ?_
    rintro e8 w8 ⟨rfl,v8,c8,a7⟩
    have f7:=X1 c8
    have g2:=X1 (g3.o.trans a7)
    have P:=X1 (j3.o.need (sz:=sz) ZD)
    have c9:=X1 (j9.o.need (sz:=sz) ZD)
    have l3:=X1 (l7.o.trans a7)
    clear c8 a7 Q8
    have Q9:=X1 (ihE _ P.o.ge P.o.le _ _ f7.o (P.o.phi (by first | omega | (simp only [X6];omega)) h0 hN))
    go_wp2_with fail
    refine Q9.o.mono ?_
    rintro e9 w9 ⟨r9,rfl,S,v9,d0,a9⟩
    have c0:=X1 S
    have i:=X1 d0
    have k6:=X1 (g2.o.trans a9)
    have i4:=X1 (P.o.trans (S.stp P.o.le))
    have j6:=X1 (c9.o.trans (S.stp c9.o.le))
    have l8:=X1 (l3.o.trans a9)
    clear S d0 a9 Q9
    obtain ⟨pk,ck,rfl⟩:=Xc i.o.row
    have hlk:r9.1.o.length≤100000000:=i4.o.len (by first | omega | (simp only [X6];omega)) h0 hN
    have c5:=i.o.c5
    have l5:Hid (∀ (j:Nat) (u:Value),((X2 r2.1.o).drop (s.o.length*5))[j]?=some u→w9.cell? ((⟨gb,0,none⟩:Addr).add j)=some u):=X1 (fun j u hu=>by rw [Xl,Nat.zero_add];exact (l8.o.cell e4.o.1 e4.o.2.1 e4.o.2.2 j).trans (m3.o j u hu))
    go_wp2_with (at_builtin;go_loud (refine wpList_append_own_at _ rfl _ _ 23 rfl (b+1) 35 iN _ 5 48 Tryz.underlying23 g9 j1 h8 h3 rfl (by decide) (.slice pk r9.1.o.length ck) r9.1.o.length (X2 r9.1.o) rfl i.o.row ⟨gb,0,none⟩ (r2.1.o.length - s.o.length) cb ((X2 r2.1.o).drop (s.o.length*5)) rfl (by rw [List.length_drop,ZH];omega) l5.o (fun u hu=>K3 _ u (List.mem_of_mem_drop hu)) (by unfold maxLen;omega) (by omega) i.o.lt ?_);intro vv Z b1 b2 b3 b4;obtain ⟨pv,cv,rfl⟩:=Xc b1;have q5:=(World.cell?_of_block (a:=⟨b,5,none⟩) (b2.block b i.o.lt (fun e=>by have:=(i.o.own e.symm).1;omega))).trans i.o.c5;have q6:=(World.frozen?_of_block (a:=⟨b,5,none⟩) (b2.block b i.o.lt (fun e=>by have:=(i.o.own e.symm).1;omega))).trans (i.o.fr 5);have h5:=X1 b1;have c3:=X1 b2;have j0:=X1 b4;clear b1 b2 b3 b4)
    have d1:DK b tg tc ts sz (.slice pv (r9.1.o.length+(r2.1.o.length - s.o.length)) cv) ({r9.1 with o:=r9.1.o++r2.1.o.drop s.o.length}:Pr.Dk) (Z.setCell ⟨b,5,none⟩ (.slice pv (r9.1.o.length+(r2.1.o.length - s.o.length)) cv)):=i.o.putd c3.o rfl rfl rfl (by show Z.ownsRow (b+1) 35 5 _ (r9.1.o++r2.1.o.drop s.o.length).length (X2 (r9.1.o++r2.1.o.drop s.o.length));rw [List.length_append,List.length_drop,show X2 (r9.1.o++r2.1.o.drop s.o.length)=X2 r9.1.o++X2 (r2.1.o.drop s.o.length) from by unfold X2;rw [List.flatMap_append],Qs];exact h5.o)
    have L:=X1 d1
    have H:=X1 ((k6.o.trans (.grown c3.o j0.o)).trans (.set _ Z b 5 (.slice pv (r9.1.o.length+(r2.1.o.length - s.o.length)) cv)))
    have O:=X1 (U.o.swap j6.o rfl (by show (r2.1.o.take s.o.length).length=_;rw [List.length_take];omega))
    clear d1 q5 q6
    cases i2:Xa ts sz ({r9.1 with o:=r9.1.o++r2.1.o.drop s.o.length}:Pr.Dk) Zo
    ·have J:=X1 (XU L.o Zo #[105,102] rfl i2)
     go_wp2_with fail
     refine J.o.mono ?_
     rintro k5 k8 ⟨rfl,g6,m,l⟩
     have A:=X1 m
     have F:=X1 (H.o.trans l)
     have c:=X1 (O.o)
     clear m l J
     have M:=X1 (Yc A.o [93] #[93] rfl)
     go_wp2_with fail
     refine M.o.mono ?_
     rintro h1 j4 ⟨rfl,j2,d,k⟩
     have D:=X1 d
     have z:=X1 (F.o.trans k)
     have v:=X1 (c.o.need (sz:=sz) [93])
     clear d k M
     have K:=X1 (XR D.o (v.o.len (by first | omega | (simp only [X6];omega)) h0 hN) 16 0 0 (Xd ts sz ({X7 r2.1 with o:=r2.1.o.take s.o.length}:Pr.Dk)) 2)
     go_wp2_with fail
     refine K.o.mono ?_
     rintro k0 f9 ⟨rfl,d2,r,f⟩
     have E:=X1 r
     have C:=X1 (z.o.trans f)
     have B:=X1 (v.o.put 16 0 0 (Xd ts sz ({X7 r2.1 with o:=r2.1.o.take s.o.length}:Pr.Dk)) 2)
     clear r f K
     go_wp2
     (first | go_end0 | refine bodyPost_ret (results_none rfl _ _ _) rfl ?_)
     exact ⟨(_,0),rfl,Pr.Cv.list_for i0 i1 i2 d9.o c0.o,d2,E.o,C.o⟩
    ·have J:=X1 (YC L.o Zo #[105,102] rfl i2)
     go_wp2_with fail
     refine J.o.mono ?_
     rintro k5 k8 ⟨rfl,g6,m,l⟩
     have A:=X1 m
     have F:=X1 (H.o.trans l)
     have c:=X1 (O.o.adv i2)
     clear m l J
     have M:=X1 (ihE _ c.o.ge c.o.le _ _ A.o (c.o.phi (by first | omega | (simp only [X6];omega)) h0 hN))
     go_wp2_with fail
     refine M.o.mono ?_
     rintro h1 j4 ⟨r12,rfl,y,j2,d,k⟩
     have X:=X1 y
     have D:=X1 d
     have z:=X1 (F.o.trans k)
     have v:=X1 (c.o.trans (y.stp c.o.le))
     clear y d k M
     have K:=X1 (Yc D.o [93] #[93] rfl)
     go_wp2_with fail
     refine K.o.mono ?_
     rintro k0 f9 ⟨rfl,d2,r,f⟩
     have E:=X1 r
     have C:=X1 (z.o.trans f)
     have B:=X1 (v.o.need (sz:=sz) [93])
     clear r f K
     have c4:=X1 (XR E.o (B.o.len (by first | omega | (simp only [X6];omega)) h0 hN) 16 0 0 (Xd ts sz ({X7 r2.1 with o:=r2.1.o.take s.o.length}:Pr.Dk)) 3)
     go_wp2_with fail
     refine c4.o.mono ?_
     rintro e14 w14 ⟨rfl,h9,I,N⟩
     have a0:=X1 I
     have a6:=X1 (C.o.trans N)
     have k4:=X1 (B.o.put 16 0 0 (Xd ts sz ({X7 r2.1 with o:=r2.1.o.take s.o.length}:Pr.Dk)) 3)
     clear I N c4
     go_wp2
     (first | go_end0 | refine bodyPost_ret (results_none rfl _ _ _) rfl ?_)
     exact ⟨(_,0),rfl,Pr.Cv.list_forIf i0 i1 i2 d9.o c0.o X.o,h9,a0.o,a6.o⟩
   ·have k3:¬ s.o.length=cap:=fun e=>hcf e.symm
    go_wp2_with (at_builtin;go_loud (refine wpList_append_own_at _ rfl _ _ 23 rfl w3.heap.size 35 iN _ 5 48 Tryz.underlying23 g9 j1 h8 h3 rfl (by decide) (.slice (some ⟨w3.heap.size,0,none⟩) 0 0) 0 [] rfl k9.o (if cap=s.o.length then ⟨g,0,none⟩ else ⟨g,s.o.length*5,none⟩) (r2.1.o.length - s.o.length) (cap - s.o.length) ((X2 r2.1.o).drop (s.o.length*5)) (by first | (simp [Act.eval];done) | simp [Act.eval,hcf] | simp [Act.eval,k3]) (by rw [List.length_drop,ZH];omega) HNW.o (fun u hu=>K3 _ u (List.mem_of_mem_drop hu)) (by unfold maxLen;omega) (by omega) (by simp) ?_);intro v5 w5 a1 a2 a3 a4;have f0:Below w3.heap.size w3 w5:=((Below.refl _ w3).alloc (Nat.le_refl _) _).grown a2 (by simp) (fun x e=>by cases e;exact Nat.le_refl _);have b9:=a8.o.below f0;have c5:_=some (Value.slice (some ⟨g,0,none⟩) r2.1.o.length cap):=b9.c5;have f5:=b9.fr 5;have d7:=X1 b9;have f1:=X1 a1;have h4:=X1 a3;have i9:=X1 f0;clear a1 a2 a3 a4 f0 b9)
    obtain ⟨f4,f3⟩:=HL.o
    have c1:DK b tg tc ts sz (.slice (some ⟨g,0,none⟩) s.o.length cap) ({X7 r2.1 with o:=r2.1.o.take s.o.length}:Pr.Dk) (w5.setCell ⟨b,5,none⟩ (.slice (some ⟨g,0,none⟩) s.o.length cap)):=d7.o.putd ⟨rfl,rfl,rfl,Nat.le_refl _,fun _ _ _=>rfl⟩ rfl rfl rfl (by show w5.ownsRow (b+1) 35 5 _ (r2.1.o.take s.o.length).length (X2 (r2.1.o.take s.o.length));rw [Qr,List.length_take,Nat.min_eq_left hL];exact row_takeP d7.o.row hL)
    have g4:=X1 c1
    have j8:Hid (Pr.Gr b _ (.slice (some ⟨g,0,none⟩) s.o.length cap) w0 (w5.setCell ⟨b,5,none⟩ (.slice (some ⟨g,0,none⟩) s.o.length cap))):=X1 ((k1.o.trans (.below i9.o)).trans ⟨(Pr.Gr.set _ w5 b 5 (.slice (some ⟨g,0,none⟩) s.o.length cap)).mv,.inl rfl⟩)
    have c2:Hid (Pr.Stp ts s ({X7 r2.1 with o:=r2.1.o.take s.o.length}:Pr.Dk) 0):=X1 ⟨Nat.le_succ_of_le U.o.ge,XG i1,by show s.o.length≤(r2.1.o.take s.o.length).length;rw [List.length_take];omega,by show ((r2.1.o.take s.o.length).length:Int)≤_+4*(((r2.1.p+1:Nat):Int) - _)+0;rw [List.length_take];have:=U.o.ge;omega⟩
    have m2:=X1 (Pr.Gr.refl b (.slice (some ⟨g,0,none⟩) s.o.length cap) (w5.setCell ⟨b,5,none⟩ (.slice (some ⟨g,0,none⟩) s.o.length cap)))
    rcases f1.o.2 with ⟨hv,_⟩ | ⟨gb,cb,curb,hv,hb1,hb2,_⟩
    ·exact absurd (h4.o.1 hv).1 (by simp)
    rw [Nat.zero_add] at hv
    subst hv
    have e0:=f1.o
    rw [Nat.zero_add,List.nil_append] at e0
    have m3:Hid (∀ (j:Nat) (u:Value),((X2 r2.1.o).drop (s.o.length*5))[j]?=some u→(w5.setCell ⟨b,5,none⟩ (.slice (some ⟨g,0,none⟩) s.o.length cap)).cell? ⟨gb,j,none⟩=some u):=X1 (fun j u hu=>(World.cell?_setCell_other _ _ _ _ (fun e=>by have:=congrArg Addr.block e;simp at this;omega)).trans (ZK e0 hu))
    have e4:Hid (gb < (w5.setCell ⟨b,5,none⟩ (.slice (some ⟨g,0,none⟩) s.o.length cap)).heap.size∧gb≠b∧((.slice (some ⟨g,0,none⟩) s.o.length cap):Value).ownBlock≠some gb):=X1 ⟨by rw [show (w5.setCell ⟨b,5,none⟩ (.slice (some ⟨g,0,none⟩) s.o.length cap)).heap.size=w5.heap.size from by simp];exact (Array.getElem?_eq_some_iff.1 hb2).1,by omega,fun e=>by simp [Value.ownBlock] at e;omega⟩
    clear c1 e0 hb1 hb2 f1 h4 d7 i9 f4 f3 c5 f5
    have h2:=X1 (Pr.Stp.refl c2.o.le)
    have Q7:=X1 (Q0 g4.o)
    go_wp2_with fail
    refine Q7.o.mono ?_
    rintro e7 w7 ⟨rfl,v7,d3,b0⟩
    have h6:=X1 d3
    have g3:=X1 (j8.o.trans b0)
    have j3:=X1 (c2.o.name (sz:=sz))
    have j9:=X1 (h2.o.name (sz:=sz))
    have l7:=X1 (m2.o.trans b0)
    clear d3 b0 Q7
    have Q8:=X1 (Yc h6.o ZD #[105,110] rfl)
    go_wp2_with fail
    refine Q8.o.mono ?_
    rintro e8 w8 ⟨rfl,v8,c8,a7⟩
    have f7:=X1 c8
    have g2:=X1 (g3.o.trans a7)
    have P:=X1 (j3.o.need (sz:=sz) ZD)
    have c9:=X1 (j9.o.need (sz:=sz) ZD)
    have l3:=X1 (l7.o.trans a7)
    clear c8 a7 Q8
    have Q9:=X1 (ihE _ P.o.ge P.o.le _ _ f7.o (P.o.phi (by first | omega | (simp only [X6];omega)) h0 hN))
    go_wp2_with fail
    refine Q9.o.mono ?_
    rintro e9 w9 ⟨r9,rfl,S,v9,d0,a9⟩
    have c0:=X1 S
    have i:=X1 d0
    have k6:=X1 (g2.o.trans a9)
    have i4:=X1 (P.o.trans (S.stp P.o.le))
    have j6:=X1 (c9.o.trans (S.stp c9.o.le))
    have l8:=X1 (l3.o.trans a9)
    clear S d0 a9 Q9
    obtain ⟨pk,ck,rfl⟩:=Xc i.o.row
    have hlk:r9.1.o.length≤100000000:=i4.o.len (by first | omega | (simp only [X6];omega)) h0 hN
    have c5:=i.o.c5
    have l5:Hid (∀ (j:Nat) (u:Value),((X2 r2.1.o).drop (s.o.length*5))[j]?=some u→w9.cell? ((⟨gb,0,none⟩:Addr).add j)=some u):=X1 (fun j u hu=>by rw [Xl,Nat.zero_add];exact (l8.o.cell e4.o.1 e4.o.2.1 e4.o.2.2 j).trans (m3.o j u hu))
    go_wp2_with (at_builtin;go_loud (refine wpList_append_own_at _ rfl _ _ 23 rfl (b+1) 35 iN _ 5 48 Tryz.underlying23 g9 j1 h8 h3 rfl (by decide) (.slice pk r9.1.o.length ck) r9.1.o.length (X2 r9.1.o) rfl i.o.row ⟨gb,0,none⟩ (r2.1.o.length - s.o.length) cb ((X2 r2.1.o).drop (s.o.length*5)) rfl (by rw [List.length_drop,ZH];omega) l5.o (fun u hu=>K3 _ u (List.mem_of_mem_drop hu)) (by unfold maxLen;omega) (by omega) i.o.lt ?_);intro vv Z b1 b2 b3 b4;obtain ⟨pv,cv,rfl⟩:=Xc b1;have q5:=(World.cell?_of_block (a:=⟨b,5,none⟩) (b2.block b i.o.lt (fun e=>by have:=(i.o.own e.symm).1;omega))).trans i.o.c5;have q6:=(World.frozen?_of_block (a:=⟨b,5,none⟩) (b2.block b i.o.lt (fun e=>by have:=(i.o.own e.symm).1;omega))).trans (i.o.fr 5);have h5:=X1 b1;have c3:=X1 b2;have j0:=X1 b4;clear b1 b2 b3 b4)
    have d1:DK b tg tc ts sz (.slice pv (r9.1.o.length+(r2.1.o.length - s.o.length)) cv) ({r9.1 with o:=r9.1.o++r2.1.o.drop s.o.length}:Pr.Dk) (Z.setCell ⟨b,5,none⟩ (.slice pv (r9.1.o.length+(r2.1.o.length - s.o.length)) cv)):=i.o.putd c3.o rfl rfl rfl (by show Z.ownsRow (b+1) 35 5 _ (r9.1.o++r2.1.o.drop s.o.length).length (X2 (r9.1.o++r2.1.o.drop s.o.length));rw [List.length_append,List.length_drop,show X2 (r9.1.o++r2.1.o.drop s.o.length)=X2 r9.1.o++X2 (r2.1.o.drop s.o.length) from by unfold X2;rw [List.flatMap_append],Qs];exact h5.o)
    have L:=X1 d1
    have H:=X1 ((k6.o.trans (.grown c3.o j0.o)).trans (.set _ Z b 5 (.slice pv (r9.1.o.length+(r2.1.o.length - s.o.length)) cv)))
    have O:=X1 (U.o.swap j6.o rfl (by show (r2.1.o.take s.o.length).length=_;rw [List.length_take];omega))
    clear d1 q5 q6
    cases i2:Xa ts sz ({r9.1 with o:=r9.1.o++r2.1.o.drop s.o.length}:Pr.Dk) Zo
    ·have J:=X1 (XU L.o Zo #[105,102] rfl i2)
     go_wp2_with fail
     refine J.o.mono ?_
     rintro k5 k8 ⟨rfl,g6,m,l⟩
     have A:=X1 m
     have F:=X1 (H.o.trans l)
     have c:=X1 (O.o)
     clear m l J
     have M:=X1 (Yc A.o [93] #[93] rfl)
     go_wp2_with fail
     refine M.o.mono ?_
     rintro h1 j4 ⟨rfl,j2,d,k⟩
     have D:=X1 d
     have z:=X1 (F.o.trans k)
     have v:=X1 (c.o.need (sz:=sz) [93])
     clear d k M
     have K:=X1 (XR D.o (v.o.len (by first | omega | (simp only [X6];omega)) h0 hN) 16 0 0 (Xd ts sz ({X7 r2.1 with o:=r2.1.o.take s.o.length}:Pr.Dk)) 2)
     go_wp2_with fail
     refine K.o.mono ?_
     rintro k0 f9 ⟨rfl,d2,r,f⟩
     have E:=X1 r
     have C:=X1 (z.o.trans f)
     have B:=X1 (v.o.put 16 0 0 (Xd ts sz ({X7 r2.1 with o:=r2.1.o.take s.o.length}:Pr.Dk)) 2)
     clear r f K
     go_wp2
     (first | go_end0 | refine bodyPost_ret (results_none rfl _ _ _) rfl ?_)
     exact ⟨(_,0),rfl,Pr.Cv.list_for i0 i1 i2 d9.o c0.o,d2,E.o,C.o⟩
    ·have J:=X1 (YC L.o Zo #[105,102] rfl i2)
     go_wp2_with fail
     refine J.o.mono ?_
     rintro k5 k8 ⟨rfl,g6,m,l⟩
     have A:=X1 m
     have F:=X1 (H.o.trans l)
     have c:=X1 (O.o.adv i2)
     clear m l J
     have M:=X1 (ihE _ c.o.ge c.o.le _ _ A.o (c.o.phi (by first | omega | (simp only [X6];omega)) h0 hN))
     go_wp2_with fail
     refine M.o.mono ?_
     rintro h1 j4 ⟨r12,rfl,y,j2,d,k⟩
     have X:=X1 y
     have D:=X1 d
     have z:=X1 (F.o.trans k)
     have v:=X1 (c.o.trans (y.stp c.o.le))
     clear y d k M
     have K:=X1 (Yc D.o [93] #[93] rfl)
     go_wp2_with fail
     refine K.o.mono ?_
     rintro k0 f9 ⟨rfl,d2,r,f⟩
     have E:=X1 r
     have C:=X1 (z.o.trans f)
     have B:=X1 (v.o.need (sz:=sz) [93])
     clear r f K
     have c4:=X1 (XR E.o (B.o.len (by first | omega | (simp only [X6];omega)) h0 hN) 16 0 0 (Xd ts sz ({X7 r2.1 with o:=r2.1.o.take s.o.length}:Pr.Dk)) 3)
     go_wp2_with fail
     refine c4.o.mono ?_
     rintro e14 w14 ⟨rfl,h9,I,N⟩
     have a0:=X1 I
     have a6:=X1 (C.o.trans N)
     have k4:=X1 (B.o.put 16 0 0 (Xd ts sz ({X7 r2.1 with o:=r2.1.o.take s.o.length}:Pr.Dk)) 3)
     clear I N c4
     go_wp2
     (first | go_end0 | refine bodyPost_ret (results_none rfl _ _ _) rfl ?_)
     exact ⟨(_,0),rfl,Pr.Cv.list_forIf i0 i1 i2 d9.o c0.o X.o,h9,a0.o,a6.o⟩
def Z6 (ns:List Tr.Nd) (ls:List Nat):Bool:=decide (∀ i (h:i < ls.length) k (h':k < i),(ns[ls[k]]?.map (·.text))≠(ns[ls[i]]?.map (·.text)))
theorem Tr.apart_true {ns:List Tr.Nd} {ls:List Nat} (h:∀ i (h:i < ls.length) k (h':k < i),(ns[ls[k]]?.map (·.text))≠(ns[ls[i]]?.map (·.text))):Z6 ns ls=true:=by
 unfold Z6;exact decide_eq_true h
theorem Tr.apart_false {ns:List Tr.Nd} {ls:List Nat} {i k:Nat} (hi:i < ls.length) (hk:k < i) (h:(ns[ls[k]]?.map (·.text))=(ns[ls[i]]?.map (·.text))):Z6 ns ls=false:=by
 unfold Z6;exact decide_eq_false fun q=>q i hi k hk h
set_option maxRecDepth 100000 in
set_option maxHeartbeats 1000000 in
theorem Je (ns:List Tr.Nd) (ls:List Nat) (tg tc g o c:Nat) (w:World) (hl:ls.length≤1048576) (ht:NodesAt w tg ns) (hi:IntsAt w g o ls) (hin:∀ x∈ls,x < ns.length) :
  Calls Tryz.prog 81 #[.agg #[.slice (some ⟨tg,0,none⟩) ns.length tc],.slice (some ⟨g,o,none⟩) ls.length c] w fun e w'=>e = .returned (.bool (Z6 ns ls))∧Below w.heap.size w w':=by
 have r1:Below w.heap.size w (w.alloc (.cells #[.slice (some ⟨tg,0,none⟩) ns.length tc] 25)):=bA _
 have HT:=X1 ht
 have HI:=X1 hi
 have HIN:=X1 hin
 clear ht hi hin
 go_enter Tryz.func81,Tryz.ntmps81
 go_wp2
 go_loopw [5] (fun t wr=>∃ i:Nat,i≤ls.length∧t = .int .i64 i∧Below w.heap.size w wr∧w.heap.size < wr.heap.size∧wr.cell? ⟨w.heap.size,0,none⟩=some (.slice (some ⟨tg,0,none⟩) ns.length tc)∧(∀ j (h:j < ls.length) k (h':k < j),j < i→(ns[ls[k]]?.map (·.text))≠(ns[ls[j]]?.map (·.text)))) (fun t _=>ls.length - (intOf t).toNat)
 case atStart=>exact ⟨0,Nat.zero_le _,rfl,r1,by simp,by simp,fun j _ k _ h=>by omega⟩
 case round =>
  obtain ⟨i,hil,rfl,hB,a5,hc0,he⟩:=hrel
  have HE:=X1 he
  clear he
  by_cases hlt:i < ls.length
  ·have hI:=HI.o.2 i hlt
   have hx:ls[i] < ns.length:=HIN.o _ (List.getElem_mem _)
   obtain ⟨_,_,_,hN,_⟩:=HT.o.2 ls[i] hx
   have hxi:=X1 (show ns[ls[i]]?.map (·.text)=some ns[ls[i]].text by simp [hx])
   go_wp2
   go_loopw [6] (fun t wr=>∃ k:Nat,k≤i∧t = .int .i64 k∧Below w.heap.size w wr∧w.heap.size < wr.heap.size∧wr.cell? ⟨w.heap.size,0,none⟩=some (.slice (some ⟨tg,0,none⟩) ns.length tc)∧(∀ j (h:j < ls.length),j < k→(ns[ls[j]]?.map (·.text))≠(ns[ls[i]]?.map (·.text)))) (fun t _=>i - (intOf t).toNat)
   case atStart=>exact ⟨0,Nat.zero_le _,rfl,hB,a5,hc0,fun j _ h=>by omega⟩
   case round =>
    obtain ⟨k,hk,rfl,a,a4,hc2,he2⟩:=hrel
    have HE2:=X1 he2
    clear he2
    by_cases hki:k < i
    ·have hkl:k < ls.length:=by omega
     have hK:=HI.o.2 k hkl
     have hy:ls[k] < ns.length:=HIN.o _ (List.getElem_mem _)
     obtain ⟨_,_,_,hM,_⟩:=HT.o.2 ls[k] hy
     have hyi:=X1 (show ns[ls[k]]?.map (·.text)=some ns[ls[k]].text by simp [hy])
     have a0:=(a.cell (p:=⟨g,o+i,none⟩) HI.o.1).trans hI
     have a1:=(a.cell (p:=⟨g,o+k,none⟩) HI.o.1).trans hK
     have a2:=(a.cell (p:=⟨tg,ls[i]*5+3,none⟩) HT.o.1).trans hN
     have a3:=(a.cell (p:=⟨tg,ls[k]*5+3,none⟩) HT.o.1).trans hM
     have HXX:=X1 (show (ns[ls[k]]?.map (·.text)=ns[ls[i]]?.map (·.text))↔(ns[ls[k]].text=ns[ls[i]].text) by rw [hxi.o,hyi.o];simp)
     generalize ns[ls[k]].text=tk at *
     generalize ns[ls[i]].text=ti at *
     generalize hlk:ls[k]=xk at *
     generalize hli:ls[i]=xi at *
     clear hxi hyi hI hK hN hM
     have HLK:=X1 hlk
     have HLI:=X1 hli
     clear hlk hli
     cases hq:(tk.toList == ti.toList)
     ·go_wp2
      go_quiet (fail)
      go_wp2
      go_roundw
      case rel =>
       refine ⟨k+1,by omega,by go_num,below_drewN a _,a4,hc2,?_⟩
       intro j hj hjk
       by_cases e:j=k
       ·subst e
        rw [HLK.o]
        intro h
        have:=HXX.o.1 h
        rw [this] at hq;simp at hq
       ·exact HE2.o j hj (by omega)
      case measure=>simp [intOf];omega
     ·go_wp2
      go_quiet (fail)
      go_wp2
      go_ret
      refine ⟨X8 ?_,below_drewN a _⟩
      refine (Tr.apart_false hlt hki ?_).symm
      rw [HLK.o,HLI.o]
      refine HXX.o.2 ?_
      have e2:tk.toList=ti.toList:=by simpa using hq
      rw [Lib.toList_data,Lib.toList_data] at e2
      exact ByteArray.ext (Array.toList_inj.1 e2)
    ·go_wp2
     go_roundw
     case rel =>
      refine ⟨i+1,by omega,by go_num,a,a4,hc2,?_⟩
      intro j hj k' hk' hji
      by_cases e:j=i
      ·subst e;exact HE2.o k' (by omega) (by omega)
      ·exact HE.o j hj k' hk' (by omega)
     case measure=>simp [intOf];omega
  ·go_wp2
   go_ret
   refine ⟨X8 ?_,hB⟩
   exact (Tr.apart_true fun j hj k hk=>HE.o j hj k hk (by omega)).symm
end Go.Proofs.YtimbaebigjjkaaaGreatDoor
