/- Kg, Kh. -/
import Derived.Test.YtimbaebigjjkaaaGreatDoorP36
import Derived.Test.YtimbaebigjjkaaaGreatDoorP14
namespace Go.Proofs.YtimbaebigjjkaaaGreatDoor
open Go.RowKit
def Zn (ns:List Tr.Nd) (x:Nat) (kn:List Tr.Kn) (s:Tr.St):Tr.St:=kn.foldl (fun s p=>if p.1=Xb ns x then Xg x 8 s else s) s
def YD (ns:List Tr.Nd):List Nat→List Tr.Kn→Tr.St→List Tr.Kn × Tr.St
 | [],kn,s=>(kn,s)
 | x :: r,kn,s=>YD ns r (kn++[(Xb ns x,x)]) (Zn ns x kn s)
def YV (n:Nat):Tr.St:=⟨List.replicate n 0,List.replicate n (-1)⟩
def YT (ns:List Tr.Nd) (ks:List (List Nat)):Tr.St :=
 Xx ns ks ns.length (ns.length - 1) (YD ns (Xs ns ks (X5 ks (ns.length - 1))) [] (YV ns.length)).1 (YD ns (Xs ns ks (X5 ks (ns.length - 1))) [] (YV ns.length)).2
theorem Tr.dupK_at (ns:List Tr.Nd) (x:Nat) (kn:List Tr.Kn) (j:Nat) (s:Tr.St) (h:j < kn.length):Zn ns x (kn.take (j+1)) s=if kn[j].1=Xb ns x then Xg x 8 (Zn ns x (kn.take j) s) else Zn ns x (kn.take j) s:=by
 unfold Zn
 rw [List.take_succ_eq_append_getElem h,List.foldl_append];rfl
theorem Tr.mkS_at (ns:List Tr.Nd) (ms:List Nat) (i:Nat) (kn:List Tr.Kn) (s:Tr.St) (h:i < ms.length):YD ns (ms.drop i) kn s=YD ns (ms.drop (i+1)) (kn++[(Xb ns ms[i],ms[i])]) (Zn ns ms[i] kn s):=by
 rw [List.drop_eq_getElem_cons h];rfl
theorem QV (ns:List Tr.Nd) (ks:List (List Nat)) (m:Nat) (hks:∀ k (h:k < ks.length),∀ x∈ks[k],x < ns.length):∀ x∈Xs ns ks (X5 ks m),x < ns.length:=by
 have hk:∀ k,∀ x∈X5 ks k,x < ns.length:=by
  intro k x hx
  unfold X5 at hx
  by_cases h:k < ks.length
  ·rw [List.getElem?_eq_getElem h] at hx;exact hks k h x hx
  ·rw [List.getElem?_eq_none (by omega)] at hx;cases hx
 intro x hx
 obtain ⟨y,hy,a⟩:=List.mem_flatMap.1 hx
 unfold Ks at a
 split at a
 ·have:x=y:=by simpa using a
  subst this;exact hk m x hy
 ·split at a
  ·exact hk y x a
  ·cases a
theorem rep_set (n i:Nat) (h:i < n):(List.replicate i (-1:Int)++List.replicate (n - i) 0).set i (-1)=List.replicate (i+1) (-1)++List.replicate (n - (i+1)) 0:=by
 obtain ⟨k,rfl⟩:∃ k,n=i+1+k:=⟨n - (i+1),by omega⟩
 rw [show i+1+k - i=k+1 from by omega,show i+1+k - (i+1)=k from by omega,List.replicate_succ,List.set_append_right (h:=by simp),List.replicate_succ']
 simp
theorem Kz (w:World) (n base:Nat) (hb:base≤w.heap.size) (hn:n≤maxLen):(w.alloc (.cells (madeCells #[.int .i64 0] n) 3)).ownsRow base 3 1 (.slice (some ⟨w.heap.size,0,none⟩) n n) n ((List.replicate n (0:Int)).map vi):=by
 refine ⟨by simp,.inr ⟨w.heap.size,n,_,rfl,hb,Xi w _,Nat.le_refl _,hn,by rw [size_madeCells,Nat.mul_one],?_⟩⟩
 rw [List.take_of_length_le (by simp [size_madeCells])]
 apply List.ext_getElem
 ·simp [size_madeCells]
 ·intro i h1 h2
  simp [madeCells,vi,Nat.mod_one]
abbrev mdO (n:Nat):Obj:= .cells (madeCells #[.int .i64 0] n) 3
theorem look_made (ns:List Tr.Nd) (ks:List (List Nat)) (tg tc g4 c4 base cg bg:Nat) (vs:List Value) (w1:World) (hn:ns.length≤5000) (hcb:(cg=w1.heap.size∧bg=w1.heap.size+1)∨(cg=w1.heap.size+1∧bg=w1.heap.size))
  (ht:NodesAt w1 tg ns) (ho:w1.ownsRow base 31 1 (.slice (some ⟨g4,0,none⟩) ks.length c4) ks.length vs) (hr:Rows w1 base g4 g4 vs ks) (hl:ks.length=ns.length) :
  Fx ns ks (w1.heap.size+1+1) tg tc g4 c4 cg bg (((w1.alloc (mdO ns.length)).alloc (mdO ns.length)).alloc (.cells #[.slice (some ⟨tg,0,none⟩) ns.length tc,.slice (some ⟨g4,0,none⟩) ns.length c4,.slice (some ⟨cg,0,none⟩) ns.length ns.length,.slice (some ⟨bg,0,none⟩) ns.length ns.length] 66)).drew ∧
  Dy ns.length cg bg ⟨List.replicate ns.length 0,List.replicate ns.length 0⟩ (((w1.alloc (mdO ns.length)).alloc (mdO ns.length)).alloc (.cells #[.slice (some ⟨tg,0,none⟩) ns.length tc,.slice (some ⟨g4,0,none⟩) ns.length c4,.slice (some ⟨cg,0,none⟩) ns.length ns.length,.slice (some ⟨bg,0,none⟩) ns.length ns.length] 66)).drew ∧
  Below w1.heap.size w1 (((w1.alloc (mdO ns.length)).alloc (mdO ns.length)).alloc (.cells #[.slice (some ⟨tg,0,none⟩) ns.length tc,.slice (some ⟨g4,0,none⟩) ns.length c4,.slice (some ⟨cg,0,none⟩) ns.length ns.length,.slice (some ⟨bg,0,none⟩) ns.length ns.length] 66)).drew:=by
 have hm0:=Kz w1 ns.length 0 (Nat.zero_le _) (by unfold maxLen;omega)
 have b:=Kz (w1.alloc (mdO ns.length)) ns.length 0 (Nat.zero_le _) (by unfold maxLen;omega)
 rw [World.size_alloc] at b
 have hB:Below w1.heap.size w1 ((((w1.alloc (mdO ns.length)).alloc (mdO ns.length)).alloc (.cells #[.slice (some ⟨tg,0,none⟩) ns.length tc,.slice (some ⟨g4,0,none⟩) ns.length c4,.slice (some ⟨cg,0,none⟩) ns.length ns.length,.slice (some ⟨bg,0,none⟩) ns.length ns.length] 66)).drew):=(((bA _).alloc (by simp) _).alloc (by simp;omega) _).drew
 have a0:=Xi ((w1.alloc (mdO ns.length)).alloc (mdO ns.length)) (.cells #[.slice (some ⟨tg,0,none⟩) ns.length tc,.slice (some ⟨g4,0,none⟩) ns.length c4,.slice (some ⟨cg,0,none⟩) ns.length ns.length,.slice (some ⟨bg,0,none⟩) ns.length ns.length] 66)
 rw [World.size_alloc,World.size_alloc] at a0
 have hg4:=(ho.lt g4 rfl).2
 have htg:=ht.1
 have a:∀ (j:Nat) (v:Value),(#[.slice (some ⟨tg,0,none⟩) ns.length tc,.slice (some ⟨g4,0,none⟩) ns.length c4,.slice (some ⟨cg,0,none⟩) ns.length ns.length,.slice (some ⟨bg,0,none⟩) ns.length ns.length]:Array Value)[j]?=some v→((((w1.alloc (mdO ns.length)).alloc (mdO ns.length)).alloc (.cells #[.slice (some ⟨tg,0,none⟩) ns.length tc,.slice (some ⟨g4,0,none⟩) ns.length c4,.slice (some ⟨cg,0,none⟩) ns.length ns.length,.slice (some ⟨bg,0,none⟩) ns.length ns.length] 66)).drew).cell? ⟨w1.heap.size+1+1,j,none⟩=some v:=by
  intro j v hv
  show World.cell? (((w1.alloc (mdO ns.length)).alloc (mdO ns.length)).alloc (.cells #[.slice (some ⟨tg,0,none⟩) ns.length tc,.slice (some ⟨g4,0,none⟩) ns.length c4,.slice (some ⟨cg,0,none⟩) ns.length ns.length,.slice (some ⟨bg,0,none⟩) ns.length ns.length] 66)) _=_
  rw [World.cell?,a0]
  exact hv
 refine ⟨⟨by omega,by omega,by omega,by omega,by omega,by omega,?_,Nat.lt_of_lt_of_le hg4 hB.size,?_,?_,?_,?_,ht.below hB,hl,fun k hk=>?_⟩,⟨by omega,?_,?_⟩,hB⟩
 ·show _ < (((w1.alloc (mdO ns.length)).alloc (mdO ns.length)).alloc (.cells #[.slice (some ⟨tg,0,none⟩) ns.length tc,.slice (some ⟨g4,0,none⟩) ns.length c4,.slice (some ⟨cg,0,none⟩) ns.length ns.length,.slice (some ⟨bg,0,none⟩) ns.length ns.length] 66)).heap.size;simp
 ·exact a 0 _ rfl
 ·exact a 1 _ rfl
 ·exact a 2 _ rfl
 ·exact a 3 _ rfl
 ·obtain ⟨g,c,hv,_,_,_,hi,_⟩:=hr.2 k hk
  have hgl:=hi.1
  exact ⟨g,c,(hB.cell (p:=⟨g4,k,none⟩) hg4).trans ((ho.cellAt k (by omega)).trans hv),by omega,by omega,hi.below hB⟩
 ·rcases hcb with ⟨rfl,rfl⟩ | ⟨rfl,rfl⟩
  ·exact ((hm0.alloc _).alloc _).drew
  ·exact (b.alloc _).drew
 ·rcases hcb with ⟨rfl,rfl⟩ | ⟨rfl,rfl⟩
  ·exact (b.alloc _).drew
  ·exact ((hm0.alloc _).alloc _).drew
theorem make_eq (n:Nat) (hn:n≤5000) (W:World):(Instr.makeSlice 31 (.int .i64 (n:Int)) (.int .i64 (n:Int))).run Tryz.prog W = .ok (.slice (some ⟨W.heap.size,0,none⟩) n n) (W.alloc (.cells (madeCells (Value.cells (.int .i64 0)) (n*1)) 3)):=by
 obtain ⟨iI,hI,hIz,hIs,hIb⟩:=info_parts Tryz.infoInt
 have:=run_make (P:=Tryz.prog) W 31 3 iI (.int .i64 0) Tryz.underlying31 hI hIz .i64 .i64 (n:Int) (n:Int) (by omega) (Int.le_refl _) (by rw [hIb];omega) (by omega)
 rw [hIs,Int.toNat_natCast] at this
 exact this
set_option maxRecDepth 100000 in
set_option maxHeartbeats 1000000 in
theorem look_any (ns:List Tr.Nd) (tg tc:Nat) (w:World) (hn1:1≤ns.length) (hn5:ns.length≤5000) (hgood:XY ns=true)
  (hlen:∀ k (h:k < (Xf ns).length),((Xf ns)[k]).length≤5000∧(X4 ns k=14→((Xf ns)[k]).length=2)∧(X4 ns k=16→1≤((Xf ns)[k]).length)∧(X4 ns k=15∨X4 ns k=20→1≤((Xf ns)[k]).length))
  (ht:NodesAt w tg ns) :
  Calls Tryz.prog 31 #[.agg #[.slice (some ⟨tg,0,none⟩) ns.length tc]] w fun e w'=>∃ wb kg kc cg bg,e = .returned (.pointer (some ⟨wb,0,none⟩))∧Fx ns (Xf ns) wb tg tc kg kc cg bg w'∧Dy ns.length cg bg (YT ns (Xf ns)) w'∧w.heap.size≤cg∧w.heap.size≤bg∧Below w.heap.size w w':=by
 obtain ⟨iK,hKi,hKz,hKs,hKb⟩:=info_parts Tryz.infoKn
 have r1:Below w.heap.size w (w.alloc (.cells #[.slice (some ⟨tg,0,none⟩) ns.length tc] 25)):=bA _
 have b7:=Zs hgood
 have r:=K5 ns
 have hmk:=make_eq ns.length hn5
 have HKC:=X1 (fun w' (hb:Below w.heap.size w w')=>kids_any ns tg tc w' (by omega) (ht.below hb))
 have HLN:=X1 hlen
 have b0:=X1 r
 have HT:=X1 ht
 clear hlen r ht
 rw [hgood] at HKC
 generalize hks:Xf ns=ks at *
 go_enter Tryz.func31,Tryz.ntmps31
 go_wp2_with fail
 refine (HKC.o _ r1).mono ?_
 rintro e w1 ⟨g4,c4,vs,rfl,ho4,a3,Q⟩
 have b4:=r1.trans (Q.mono (by simp))
 have a7:w1.cell? ⟨w.heap.size,0,none⟩=some (.slice (some ⟨tg,0,none⟩) ns.length tc):=(Q.cell (p:=⟨w.heap.size,0,none⟩) (by simp)).trans (by simp)
 have hz1:w.heap.size < w1.heap.size:=Nat.lt_of_lt_of_le (by simp) Q.size
 have HO4:=X1 ho4
 have HRW:=X1 a3
 clear ho4 a3 Q
 go_upto_region 2 with fail
 go_cut [5] from 16 to 27 (fun v5 wx=>∃ wb cg bg,v5 = .pointer (some ⟨wb,0,none⟩)∧w1.heap.size≤wb∧w1.heap.size≤cg∧w1.heap.size≤bg∧Fx ns ks wb tg tc g4 c4 cg bg wx∧Dy ns.length cg bg ⟨List.replicate ns.length 0,List.replicate ns.length 0⟩ wx∧Below w1.heap.size w1 wx)
 case first =>
  have y:=X1 (look_made ns ks tg tc g4 c4 _ w1.heap.size (w1.heap.size+1) vs w1 hn5 (.inl ⟨rfl,rfl⟩) (HT.o.below b4) HO4.o HRW.o b7)
  have z:=X1 (look_made ns ks tg tc g4 c4 _ (w1.heap.size+1) w1.heap.size vs w1 hn5 (.inr ⟨rfl,rfl⟩) (HT.o.below b4) HO4.o HRW.o b7)
  go_region
  all_goals
   go_wp2_with fail
   go_meet
   case rel =>
    first
    | exact ⟨_,_,_,rfl,by omega,by omega,by omega,y.o.1,y.o.2.1,y.o.2.2⟩
    | exact ⟨_,_,_,rfl,by omega,by omega,by omega,z.o.1,z.o.2.1,z.o.2.2⟩
 case rest =>
  obtain ⟨wb,cg,bg,rfl,hwb,hcg,hbg,hFx,O,N⟩:=hcut
  have HFX:=X1 hFx
  have HDX:=X1 O
  have hzc:=N.size
  have bx0:=(N.cell (p:=⟨w.heap.size,0,none⟩) hz1).trans a7
  have B:=X1 (b4.trans (N.mono (Nat.le_of_lt hz1)))
  have hcgl:=(O.c.lt cg rfl).2
  have hbgl:=(O.b.lt bg rfl).2
  clear hFx O N a7
  go_wp2
  go_loopw [6] (fun t wr=>∃ i:Nat,i≤ns.length∧t = .int .i64 i∧Kp cg bg wc wr∧Dy ns.length cg bg ⟨List.replicate ns.length 0,List.replicate i (-1)++List.replicate (ns.length - i) 0⟩ wr) (fun t _=>ns.length - (intOf t).toNat)
  case atStart=>exact ⟨0,Nat.zero_le _,rfl,Kp.refl _ _ _,by simpa using HDX.o⟩
  case round =>
   obtain ⟨i,hi,rfl,l,C⟩:=hrel
   have f3:=(HFX.o.kept l).f3
   by_cases r:i < ns.length
   ·obtain ⟨cb,fb⟩:=C.cellB i r
    have HDr:=X1 C
    clear C
    have a8:(List.replicate i (-1:Int)++List.replicate (ns.length - i) 0).set i (-1)=List.replicate (i+1) (-1)++List.replicate (ns.length - (i+1)) 0:=rep_set ns.length i r
    have HST:=X1 a8
    clear a8
    go_wp2
    go_roundw
    case rel=>exact ⟨i+1,by omega,by go_num,l.setCell _ _ (.inr rfl),by have:=HDr.o.setB i (-1);rwa [HST.o] at this⟩
    case measure=>simp [intOf];omega
   ·have e:i=ns.length:=by omega
    have hD0:Dy ns.length cg bg (YV ns.length) wr:=by
     rw [e] at C
     simpa [YV] using C
    have hF0:=HFX.o.kept l
    have HD0:=X1 hD0
    have D:=X1 hF0
    have hzr:=l.size
    have b2:=(l.cell (p:=⟨w.heap.size,0,none⟩) (by show w.heap.size < wc.heap.size;omega) (by show w.heap.size≠cg;omega) (by show w.heap.size≠bg;omega)).trans bx0
    have v:Hid (Below w.heap.size w wr):=X1 ⟨l.os.trans B.o.os,l.tape.trans B.o.tape,l.output.trans B.o.output,Nat.le_trans B.o.size l.size,fun b hb=>(l.block b (Nat.lt_of_lt_of_le hb B.o.size) (by omega) (by omega)).trans (B.o.block b hb)⟩
    clear C hD0 hF0 bx0
    subst e
    have s:w.heap.size < wr.heap.size:=by omega
    have bx2:=((Zy wr emO).cell (p:=⟨w.heap.size,0,none⟩) s).trans b2
    have HMK:=X1 (makes_any ns ks tg tc g4 c4 (ns.length - 1) (wr.alloc emO) (by omega) hn5 b7 (fun k h x hx=>by have:=b0.o k h x hx;omega) (fun k h=>(HLN.o k h).1) (D.o.nodes.below (Zy wr emO)) (KidsAt.below ⟨D.o.klt,fun k h=>by obtain ⟨g,c,h1,_,_,h4⟩:=D.o.kids k h;exact ⟨g,c,h1,h4⟩⟩ (Zy wr emO)))
    have HML:=X1 (QV ns ks (ns.length - 1) (fun k h x hx=>by have:=b0.o k h x hx;omega))
    have HLK:=X1 (show YT ns ks=Xx ns ks ns.length (ns.length - 1) (YD ns (Xs ns ks (X5 ks (ns.length - 1))) [] (YV ns.length)).1 (YD ns (Xs ns ks (X5 ks (ns.length - 1))) [] (YV ns.length)).2 from rfl)
    generalize Xs ns ks (X5 ks (ns.length - 1))=ms at *
    go_wp2_with fail
    refine HMK.o.mono ?_
    rintro e w3 ⟨g5,c5,rfl,hg5,hI5,hm5,S⟩
    rw [World.size_alloc] at hg5
    have hz3:wr.heap.size+1≤w3.heap.size:=by have:=S.size;rwa [World.size_alloc] at this
    have K:Below wr.heap.size wr w3:=(Zy wr emO).trans (S.mono (by simp))
    have bx3:=(K.cell (p:=⟨w.heap.size,0,none⟩) s).trans b2
    have a2:w3.ownsRow wr.heap.size 96 2 (.slice (some ⟨wr.heap.size,0,none⟩) 0 0) 0 []:=by
     have h0:=World.ownsRow_lit (base:=wr.heap.size) (e:=96) (size:=2) wr #[] 0 (Nat.le_refl _) (Nat.zero_le _) rfl
     exact Y5 h0 (S.block _ (by simp))
    have HR0:=X1 a2
    have HF3:=X1 (D.o.kept (Kp.of_below (cg:=cg) (bg:=bg) K))
    have HD3:=X1 (HD0.o.below K)
    have HI5:=X1 hI5
    have HB3:=X1 (v.o.trans (K.mono v.o.size))
    clear S b2 bx2 a2 hI5
    have h5c:g5≠cg:=by omega
    have h5b:g5≠bg:=by omega
    obtain ⟨H,hH⟩:∃ H,H=wr.heap.size:=⟨_,rfl⟩
    rw [← hH] at HR0 hz3 hg5 hzr s
    go_wp2
    go_loopw [7,9] (fun v7 t wy=>∃ (i g7 c7:Nat) (d:List Tr.Kn) (si:Tr.St),i≤ms.length∧t = .int .i64 i∧v7 = .slice (some ⟨g7,0,none⟩) d.length c7∧g7≠g5∧g7≠cg∧g7≠bg∧w.heap.size < g7∧d.length=i∧wy.ownsRow H 96 2 (.slice (some ⟨g7,0,none⟩) d.length c7) d.length (Xu d)∧Kp cg bg wr wy∧Dy ns.length cg bg si wy∧YD ns ms [] (YV ns.length)=YD ns (ms.drop i) d si∧wy.cell? ⟨w.heap.size,0,none⟩=some (.slice (some ⟨tg,0,none⟩) ns.length tc)∧IntsAt wy g5 0 ms) (fun _ t _=>ms.length - (intOf t).toNat)
    case atStart=>exact ⟨0,H,0,[],YV ns.length,Nat.zero_le _,rfl,by rw [hH];rfl,by omega,by omega,by omega,s,rfl,HR0.o,Kp.of_below K,HD3.o,rfl,bx3,HI5.o⟩
    case round =>
     obtain ⟨i,g7,c7,d,si,hi,rfl,rfl,h75,h7c,h7b,h7w,A,ho,b6,hDy,he,bxy,hIy⟩:=hrel
     have a9:=X1 A
     have hkle:d.length≤i:=Nat.le_of_eq A
     have HOy:=X1 ho
     have HE:=X1 he
     have HDy:=X1 hDy
     have HIy:=X1 hIy
     have L:=X1 (D.o.kept b6)
     clear A ho he hDy hIy
     by_cases r:i < ms.length
     ·have hlti:(i:Int) < (ms.length:Int):=by omega
      have hx:=HIy.o.2 i r
      rw [Nat.zero_add] at hx
      have V:=HML.o _ (List.getElem_mem r)
      have HS:=X1 (Tr.mkS_at ns ms i d si r)
      have b1:=X1 (ZC V)
      have HDU:=X1 (fun j (hj:j < d.length)=>Tr.dupK_at ns ms[i] d j si hj)
      have htx:=(L.o.nodes.2 ms[i] V).2.2.2.1
      generalize ms[i]=x at *
      have a5:=X1 (show ∃ t,ns[x].text=t from ⟨_,rfl⟩)
      obtain ⟨tp,b8⟩:=a5.o
      have M:=X1 b8
      rw [b8] at htx
      clear b8 a5
      go_wp2
      go_loopw [10] (fun t wq=>∃ (j:Nat),j≤d.length∧t = .int .i64 j∧Kp cg bg wr wq∧Dy ns.length cg bg (Zn ns x (d.take j) si) wq∧wq.ownsRow H 96 2 (.slice (some ⟨g7,0,none⟩) d.length c7) d.length (Xu d)) (fun t _=>d.length - (intOf t).toNat)
      case atStart=>exact ⟨0,Nat.zero_le _,rfl,Kp.refl _ _ _,HDy.o,HOy.o⟩
      case round =>
       obtain ⟨j,hj,rfl,J,hDq,U⟩:=hrel
       obtain ⟨wo,hwo⟩:∃ wo,Kp cg bg wo wr∧wo.cell? ⟨w.heap.size,0,none⟩=some (.slice (some ⟨tg,0,none⟩) ns.length tc)∧wo.cell? ⟨g5,i,none⟩=some (.int .i64 x)∧IntsAt wo g5 0 ms∧Fx ns ks wb tg tc g4 c4 cg bg wo:=⟨_,J,bxy,hx,HIy.o,L.o⟩
       obtain ⟨I,b3,hxo,P,hFo⟩:=hwo
       have b5:=hFo.kept I
       have HFq:=X1 b5
       have Y:=X1 hDq
       have E:=X1 U
       have hwy:w.heap.size < wo.heap.size:=World.block_lt_of_cell? wo ⟨w.heap.size,0,none⟩ b3
       have f0q:=(I.cell (p:=⟨w.heap.size,0,none⟩) hwy (by show w.heap.size≠cg;omega) (by show w.heap.size≠bg;omega)).trans b3
       have hxq:=(I.cell (p:=⟨g5,i,none⟩) P.1 h5c h5b).trans hxo
       have Z:=X1 (P.heap (I.block g5 P.1 h5c h5b))
       clear I b3 hxo P hFo
       have htq:=(b5.nodes.2 x V).2.2.2.1
       rw [M.o] at htq
       clear b5 hDq
       by_cases hjl:j < d.length
       ·obtain ⟨e0,e1⟩:=(Qp U).2 j hjl
        have HDJ:=X1 (HDU.o j hjl)
        have hba:=ba_eq d[j].1 tp
        generalize d[j].1=tj at *
        generalize d[j].2=aj at *
        clear U
        cases hqq:(tj.toList == tp.toList)
        ·have W:Hid (Zn ns x (d.take (j+1)) si=Zn ns x (d.take j) si):=X1 (by rw [HDJ.o,b1.o,M.o,if_neg (fun h=>by rw [hba.2 h] at hqq;cases hqq)])
         go_wp2
         go_quiet (fail)
         go_wp2
         go_roundw
         case rel=>exact ⟨j+1,by omega,by go_num,J.below (below_drewN (Below.refl _ _) _),by rw [W.o];exact Y.o.below (below_drewN (Below.refl _ _) _),Y5 E.o rfl⟩
         case measure=>simp [intOf];omega
        ·have W:Hid (Zn ns x (d.take (j+1)) si=Xg x 8 (Zn ns x (d.take j) si)):=X1 (by rw [HDJ.o,b1.o,M.o,if_pos (hba.1 hqq)])
         go_wp2
         go_quiet (fail)
         go_wp2_with fail
         refine (Jd ns ks wb tg tc g4 c4 cg bg x 8 _ _ V (HFq.o.kept (Kp.of_below (below_drewN (Below.refl _ _) _))) (Y.o.below (below_drewN (Below.refl _ _) _))).mono ?_
         rintro e w4 ⟨rfl,hk4,hd4⟩
         go_wp2
         go_roundw
         case rel=>exact ⟨j+1,by omega,by go_num,(J.below (below_drewN (Below.refl _ _) _)).trans hk4,by rw [W.o];exact hd4,QK (w:=wr.drewN _) (Y5 E.o rfl) hk4 h7c h7b⟩
         case measure=>simp [intOf];omega
       ·have X:Hid (Dy ns.length cg bg (Zn ns x d si) wr):=X1 (by have:=Y.o;rwa [List.take_of_length_le (by omega)] at this)
        have HKN:=X1 (show ∀ (j:Nat) (u:Value),(Xu [(tp,x)])[j]?=some u→(wr.alloc (knO tp x)).drew.cell? ((⟨wr.heap.size,0,none⟩:Addr).add j)=some u from JI wr tp x)
        have hzq:=J.size
        have hHq:=E.o.lt g7 rfl
        clear U
        go_wp2
        go_region_law (refine YO rfl (.tmp 80) (.tmp 95) 93 rfl H 96 iK _ 2 24 Tryz.underlying93 hKi hKz hKs hKb rfl (by decide) (.slice (some ⟨g7,0,none⟩) d.length c7) d.length (Xu d) (by first | (simp [Act.eval];done) | simp [Act.eval,Act.put]) (E.o.alloc _).drew ⟨wr.heap.size,0,none⟩ 1 1 (Xu [(tp,x)]) (by first | (simp [Act.eval];done) | simp [Act.eval,Act.put]) rfl HKN.o (Yp _) (by unfold maxLen;omega) (by omega) (by simp;omega) ?_;intro v8 w8 a1 f a0 a6)
        all_goals
         obtain ⟨g8,c8,rfl,hg8⟩:=Z9 a1 (fun e=>by simpa using a0.1 e) (by simpa [Value.ownBlock] using a6)
         have hg7l:=E.o.lt g7 rfl
         have hK8:Kp cg bg _ w8:=(((b6.trans J).alloc _).drew).grown f (fun q e=>by simp [Value.ownBlock] at e;omega)
         have hD8:=((X.o.below (Zy wr (knO tp x))).below (Below.refl _ _).drew).grown f (by simp [Value.ownBlock];omega) (by simp [Value.ownBlock];omega)
         have hbk:∀ b,b < wr.heap.size→b≠g7→w8.heap[b]?=wr.heap[b]?:=fun b hb hne=>(f.block b (by show b < (wr.alloc (knO tp x)).heap.size;simp;omega) (by simp [Value.ownBlock];omega)).trans ((Zy wr (knO tp x)).block b hb)
         have bx8:=(World.cell?_of_block (a:=⟨w.heap.size,0,none⟩) (hbk w.heap.size (by omega) (by omega))).trans f0q
         have hI8:=Z.o.heap (hbk g5 Z.o.1 (by omega))
         have n:w.heap.size < g8∧g8≠g5∧g8≠cg∧g8≠bg:=by
          have h5l:=Z.o.1
          have hcl:=(X.o.c.lt cg rfl).2
          have hbl:=(X.o.b.lt bg rfl).2
          rcases hg8 with h | h
          ·subst h;exact ⟨by omega,by omega,by omega,by omega⟩
          ·omega
         clear f a0 a6
         go_wp2
         go_roundw
         case rel =>
          refine ⟨i+1,g8,c8,d++[(tp,x)],Zn ns x d si,by omega,by go_num,by simp,n.2.1,n.2.2.1,n.2.2.2,n.1,by have:=a9.o;simp;omega,?_,hK8,hD8,?_,bx8,hI8⟩
          ·rw [List.length_append,List.length_singleton,ZG];exact a1
          ·rw [HE.o,HS.o,b1.o,M.o]
         case measure=>simp [intOf];omega
     ·have a4:Hid (YT ns ks=Xx ns ks ns.length (ns.length - 1) d si):=X1 (by rw [HLK.o,HE.o,List.drop_of_length_le (by omega)];rfl)
      have HGG:=X1 (go1_any ns ks wb tg tc g4 c4 cg bg hn5 b0.o HLN.o ns.length (ns.length - 1) g7 c7 d si wr (by omega) (by omega) (by omega) L.o HDy.o (Qp HOy.o) h7c h7b)
      obtain ⟨m,hm⟩:∃ m,ns.length - 1=m:=⟨_,rfl⟩
      have hmi:(ns.length:Int) - 1=(m:Int):=by omega
      rw [hm] at HGG a4
      go_wp2_with fail
      refine HGG.o.mono ?_
      rintro e w9 ⟨rfl,hk9,hd9⟩
      go_wp2
      go_ret
      have F:=b6.trans hk9
      refine ⟨wb,g4,c4,cg,bg,rfl,L.o.kept hk9,by rw [a4.o];exact hd9,by omega,by omega,?_⟩
      exact ⟨F.os.trans v.o.os,F.tape.trans v.o.tape,F.output.trans v.o.output,Nat.le_trans v.o.size F.size,fun b hb=>(F.block b (Nat.lt_of_lt_of_le hb v.o.size) (by omega) (by omega)).trans (v.o.block b hb)⟩
theorem QS (ns:List Tr.Nd):∀ (ds:List Tr.Nd) (ks:List (List Nat)) (hs:List Nat),Zz ns (ds.zip ks) hs=true→∀ k (h1:k < ds.length) (h2:k < ks.length),Xm ns ds[k].kind ks[k]=true:=by
 intro ds
 induction ds with
 | nil=>intro ks hs _ k h1;simp at h1
 | cons d r ih =>
  intro ks hs hv k h1 h2
  cases ks with
  | nil=>simp at h2
  | cons x t =>
   simp only [List.zip_cons_cons,Zz,Bool.and_eq_true] at hv
   cases k with
   | zero=>exact hv.1.2
   | succ k=>exact ih t _ hv.2 k (by simpa using h1) (by simpa using h2)
theorem Yx {ns:List Tr.Nd} (h:XS ns=true):1≤ns.length∧ns.length≤5000∧XY ns=true ∧
  ∀ k (h:k < (Xf ns).length),((Xf ns)[k]).length≤5000∧(X4 ns k=14→((Xf ns)[k]).length=2)∧(X4 ns k=16→1≤((Xf ns)[k]).length)∧(X4 ns k=15∨X4 ns k=20→1≤((Xf ns)[k]).length):=by
 unfold XS at h
 simp only [Bool.and_eq_true] at h
 obtain ⟨⟨⟨h1,_⟩,h3⟩,h4⟩:=h
 have hin:=Zh h1
 have hkl:=Zs h3
 refine ⟨by omega,by omega,h3,fun k hk=>?_⟩
 have hkn:k < ns.length:=by omega
 have a:=QS ns ns (Xf ns) [] h4 k hkn hk
 have hsh:=Jn ns k hk
 rw [XJ hkn]
 generalize (Xf ns)[k]=ls at *
 refine ⟨by omega,fun e=>?_,fun e=>?_,fun e=>?_⟩
 ·rw [e] at a;simp [Xm] at a;omega
 ·rw [e] at a;simp [Xm] at a;omega
 ·cases ls with
  | nil=>rcases e with e | e <;> (rw [e] at a;simp [Xm] at a)
  | cons x r=>simp
def XT:List Int→Nat→Int × Nat
 | [],_=>(0,0)
 | c :: r,i=>if c=0 then XT r (i+1) else (c,i)
theorem JZ (l:List Int) (i:Nat) (h:i < l.length):XT (l.drop i) i=if l[i]=0 then XT (l.drop (i+1)) (i+1) else (l[i],i):=by
 rw [List.drop_eq_getElem_cons h];rfl
def Xk (ns:List Tr.Nd):Int × Nat:=if XS ns=true then XT (YT ns (Xf ns)).codes 0 else (11,0)
theorem two_new (X:World) (a b:Value) (t:TypeId):(X.alloc (.cells #[a,b] t)).cell? ⟨X.heap.size,0,none⟩=some a∧(X.alloc (.cells #[a,b] t)).cell? ⟨X.heap.size,1,none⟩=some b∧(X.alloc (.cells #[a,b] t)).frozen? ⟨X.heap.size,0,none⟩=false∧(X.alloc (.cells #[a,b] t)).frozen? ⟨X.heap.size,1,none⟩=false:=by simp
theorem boxes {w w1:World} {t:Value} {ta tb:TypeId} (h:Below (w.heap.size+1+1) ((w.alloc (.cells #[t] ta)).alloc (.cells #[.int .i64 0,.int .i64 0] tb)) w1) :
  w1.cell? ⟨w.heap.size,0,none⟩=some t∧w1.cell? ⟨w.heap.size+1,0,none⟩=some (.int .i64 0)∧w1.cell? ⟨w.heap.size+1,1,none⟩=some (.int .i64 0)∧w1.frozen? ⟨w.heap.size+1,0,none⟩=false∧w1.frozen? ⟨w.heap.size+1,1,none⟩=false:=by
 have h2:=two_new (w.alloc (.cells #[t] ta)) (.int .i64 0) (.int .i64 0) tb
 rw [World.size_alloc] at h2
 have hb:=(Below.refl (w.heap.size+1) (w.alloc (.cells #[t] ta))).alloc (by simp) (.cells #[.int .i64 0,.int .i64 0] tb)
 have ht:(w.alloc (.cells #[t] ta)).cell? ⟨w.heap.size,0,none⟩=some t:=by simp
 exact ⟨(h.cell (p:=⟨w.heap.size,0,none⟩) (show w.heap.size < w.heap.size+1+1 by omega)).trans ((hb.cell (p:=⟨w.heap.size,0,none⟩) (Nat.lt_succ_self _)).trans ht),(h.cell (p:=⟨w.heap.size+1,0,none⟩) (Nat.lt_succ_self _)).trans h2.1,(h.cell (p:=⟨w.heap.size+1,1,none⟩) (Nat.lt_succ_self _)).trans h2.2.1,(h.frozen (p:=⟨w.heap.size+1,0,none⟩) (Nat.lt_succ_self _)).trans h2.2.2.1,(h.frozen (p:=⟨w.heap.size+1,1,none⟩) (Nat.lt_succ_self _)).trans h2.2.2.2⟩
set_option maxRecDepth 100000 in
set_option maxHeartbeats 4000000 in
theorem check_any (ns:List Tr.Nd) (tg tc:Nat) (w:World) (hn:ns.length≤1048576) (ht:NodesAt w tg ns) :
  Calls Tryz.prog 10 #[.agg #[.slice (some ⟨tg,0,none⟩) ns.length tc]] w fun e w'=>e = .returned (.agg #[.int .i64 (Xk ns).1,.int .i64 (Xk ns).2])∧Below w.heap.size w w':=by
 have r2:Below w.heap.size w ((w.alloc (.cells #[.slice (some ⟨tg,0,none⟩) ns.length tc] 25)).alloc (.cells #[.int .i64 0,.int .i64 0] 37)):=(bA _).alloc (by simp) _
 have HV:=X1 (valid_any ns tg tc _ hn (ht.below r2))
 have HT:=X1 ht
 clear ht
 cases hv:XS ns
 ·have HC:Hid (Xk ns=(11,0)):=X1 (by unfold Xk;rw [hv];rfl)
  rw [hv] at HV
  rw [HC.o]
  go_enter Tryz.func10,Tryz.ntmps10
  go_wp2_with fail
  refine HV.o.mono ?_
  rintro e w1 ⟨rfl,a⟩
  rw [World.size_alloc,World.size_alloc] at a
  obtain ⟨b0,b1,b2,b3,b4⟩:=boxes a
  have b:=r2.trans (a.mono (by omega))
  clear a
  go_wp2
  refine bodyPost_ret (v:= .agg #[.int .i64 11,.int .i64 0]) (by simp [results,Tryz.results10,go_sem,b1,b2]) rfl ⟨rfl,?_⟩
  exact (b.setCell (p:=⟨w.heap.size+1,0,none⟩) (by simp) _).setCell (p:=⟨w.heap.size+1,1,none⟩) (by simp) _
 ·obtain ⟨hn1,hn5,a1,a2⟩:=Yx hv
  have HC:Hid (Xk ns=XT (YT ns (Xf ns)).codes 0):=X1 (by unfold Xk;rw [hv];rfl)
  rw [hv] at HV
  have HLK:=X1 (fun w' (hb:Below w.heap.size w w')=>look_any ns tg tc w' hn1 hn5 a1 a2 (HT.o.below hb))
  clear a2
  go_enter Tryz.func10,Tryz.ntmps10
  go_wp2_with fail
  refine HV.o.mono ?_
  rintro e w1 ⟨rfl,a⟩
  rw [World.size_alloc,World.size_alloc] at a
  obtain ⟨b0,_⟩:=boxes a
  have b:=r2.trans (a.mono (by omega))
  have hz1:w.heap.size+1+1≤w1.heap.size:=by have:=a.size;simpa using this
  go_wp2_with fail
  refine (HLK.o _ b).mono ?_
  rintro e w2 ⟨wb,kg,kc,cg,bg,rfl,hF,hD,hcg,hbg,d⟩
  have a0:=a.trans (d.mono hz1)
  obtain ⟨b0',b1,b2,b3,b4⟩:=boxes a0
  have hB2:=b.trans (d.mono b.size)
  have hF2:=hF.f2
  have hcl:=hD.lens.1
  have HDD:=X1 hD
  clear a d a0 hF hD HV HLK b0
  generalize (YT ns (Xf ns))=st at *
  go_wp2
  go_loop [4] (fun t=>∃ i:Nat,i≤ns.length∧t = .int .i64 i∧XT st.codes 0=XT (st.codes.drop i) i) (fun t=>ns.length - (intOf t).toNat)
  case atStart=>exact ⟨0,Nat.zero_le _,rfl,by simp⟩
  case round =>
   obtain ⟨i,hi,rfl,he⟩:=hrel
   have HE:=X1 he
   clear he
   by_cases hlt:i < ns.length
   ·obtain ⟨cc,_⟩:=HDD.o.cellC i hlt
    have HS:=X1 (JZ st.codes i (by omega))
    have hcv:st.codes[i]?.getD 0=st.codes[i]'(by omega):=by simp [hcl,hlt]
    rw [hcv] at cc
    generalize st.codes[i]'(by omega)=c at *
    cases hz:(c == 0)
    ·have HF:Hid (Xk ns=(c,i)):=X1 (by rw [HC.o,HE.o,HS.o,if_neg (by simpa using hz)])
     have hz2:(c != 0)=true:=by simpa using hz
     go_wp2
     refine bodyPost_ret (v:= .agg #[.int .i64 c,.int .i64 i]) (by simp [results,Tryz.results10,go_sem,b1,b2]) rfl ⟨by rw [HF.o],?_⟩
     exact (hB2.setCell (p:=⟨w.heap.size+1,0,none⟩) (by simp) _).setCell (p:=⟨w.heap.size+1,1,none⟩) (by simp) _
    ·have HF:Hid (XT st.codes 0=XT (st.codes.drop (i+1)) (i+1)):=X1 (by rw [HE.o,HS.o,if_pos (by simpa using hz)])
     have hz2:(c != 0)=false:=by simpa using hz
     go_wp2
     go_round
     case rel=>exact ⟨i+1,by omega,by go_num,HF.o⟩
     case measure=>simp [intOf];omega
   ·have HF:Hid (Xk ns=(0,0)):=X1 (by rw [HC.o,HE.o,List.drop_of_length_le (by omega)];rfl)
    go_wp2
    refine bodyPost_ret (v:= .agg #[.int .i64 0,.int .i64 0]) (by simp [results,Tryz.results10,go_sem,b1,b2]) rfl ⟨by rw [HF.o];rfl,?_⟩
    exact (hB2.setCell (p:=⟨w.heap.size+1,0,none⟩) (by simp) _).setCell (p:=⟨w.heap.size+1,1,none⟩) (by simp) _
theorem Jw (a b:Int) (W:World):Sem.run Tryz.prog (Instr.field 37 (Value.agg #[.int .i64 a,.int .i64 b]) 0) W = .ok (.int .i64 a) W:=by kernel_rfl
set_option maxHeartbeats 400000 in
theorem fits_any (ns:List Tr.Nd) (tg tc:Nat) (w:World) (hn:ns.length≤1048576) (ht:NodesAt w tg ns) :
  Calls Tryz.prog 21 #[.agg #[.slice (some ⟨tg,0,none⟩) ns.length tc]] w fun e w'=>e = .returned (.bool ((Xk ns).1 == 0))∧Below w.heap.size w w':=by
 have r1:Below w.heap.size w (w.alloc (.cells #[.slice (some ⟨tg,0,none⟩) ns.length tc] 25)):=bA _
 have HC:=X1 (check_any ns tg tc _ hn (ht.below r1))
 clear ht
 generalize Xk ns=c at *
 have hfc:=Jw c.1 c.2
 go_enter Tryz.func21,Tryz.ntmps21
 go_wp2_with fail
 refine HC.o.mono ?_
 rintro e w1 ⟨rfl,hb1⟩
 go_wp2
 go_ret
 exact ⟨rfl,r1.trans (hb1.mono (by simp))⟩
end Go.Proofs.YtimbaebigjjkaaaGreatDoor
