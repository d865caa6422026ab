/- Cp, Cw. -/
import Derived.Test.YtimbaebigjjkaaaGreatDoorP20
import Derived.Test.YtimbaebigjjkaaaGreatDoorP24
import Derived.Test.YtimbaebigjjkaaaGreatDoorP22
import Derived.Test.YtimbaebigjjkaaaGreatDoorP25
namespace Go.Proofs.YtimbaebigjjkaaaGreatDoor
open Go.RowKit
variable (gb rb:Nat) (vb:Value) (n:Nat)
theorem XI [LB] {w:World} {B size g c m:Nat} {e:TypeId} {xs:List Value} (h:w.ownsRow B e size (.slice (some ⟨g,0,none⟩) m c) m xs) {j:Nat} {u:Value} (hu:xs[j]?=some u):w.cell? ⟨g,j,none⟩=some u:=by
 have:=h.cells rfl j u hu
 rwa [Xl,Nat.zero_add] at this
set_option maxRecDepth 100000 in
set_option maxHeartbeats 16000000 in
theorem call_any [LB] (d kd:Nat) (HE:EAt gb rb vb n d kd) (hkd:kd≤1000000):CallAt gb rb vb n d kd:=fun q k kind w h hq hk=>by
 obtain ⟨iP,hP,hPz,hPs,hPb⟩:=info_parts Tryz.infoNdsC
 have hwd:IntKind.i64.wrap (d:Int)=(d:Int):=by rw [IntKind.wrap_i64];omega
 have c0:=h.c0
 have hup:=h.up
 have hlt:=h.lt
 obtain ⟨v,m,ys,f1,f2,f3,f4⟩:=h.fn
 obtain ⟨vp,vc,rfl⟩:=Xc f2
 have hgt:=h.ty
 obtain ⟨p0,hp0,hr0⟩:=h.R
 have hrt:=hr0.ty
 have HP:=X1 ((pick_keep gb rb vb n h (by omega) m (by omega)))
 have HF2:=X1 f2
 have HF4:=X1 f4
 have HE:=X1 HE
 clear f2 f4 h hr0
 go_enter Tryz.func106,Tryz.ntmps106
 go_wp2_with fail
 refine HP.o.mono ?_
 rintro e w1 ⟨z,hz,rfl,hg1,ht1,hzk,hb1⟩
 have e2:=hb1 gb hlt (by omega)
 have g1:=(World.cell?_of_block (a:=⟨gb,2,none⟩) e2).trans f1
 have HR1:=X1 (YZ HF2.o (fun b hb ht=>hb1 b hb (fun e=>by rw [e,hrt] at ht;cases ht)))
 have HC1:=X1 (HF4.o.keep (fun b hb ht=>hb1 b hb (fun e=>by rw [e,hrt] at ht;cases ht)))
 have HG1:=X1 hg1
 have HT1:=X1 ht1
 have HG1':=X1 g1
 clear hg1 ht1 HP c0 f1 hb1 HF2 HF4 g1
 go_wp2_with fail
 go_loopw [10] (fun t wr=>∃ (i:Nat),i≤m∧t = .int .i64 i∧Gn gb rb vb n (q+1) k wr∧Ty w wr∧wr.cell? ⟨gb,2,none⟩=some (.slice vp m vc)∧wr.ownsRow (rb+1) 148 4 (.slice vp m vc) m ys∧FnC wr ys m) (fun t _=>m - (intOf t).toNat)
 case atStart=>exact ⟨0,Nat.zero_le _,rfl,HG1.o,HT1.o,HG1'.o,HR1.o,HC1.o⟩
 case round =>
  obtain ⟨i,hi,rfl,hG,hT,n1,n2,n3⟩:=hrel
  by_cases hlt2:i < m
  ·obtain ⟨g,hvp⟩:∃ g,vp=some ⟨g,0,none⟩:=by
    rcases n2.2 with ⟨_,h0⟩ | ⟨g,c,_,h2,_⟩
    ·omega
    ·cases h2;exact ⟨g,rfl⟩
   subst hvp
   have hi1:(z+i) % m < m:=Nat.mod_lt _ (by omega)
   have e1:((z:Int)+(i:Int)) % (m:Int)=(((z+i) % m:Nat):Int):=by simp
   have e2':((z:Int)+(i:Int)).tmod (m:Int)=(((z+i) % m:Nat):Int):=by rw [Int.tmod_eq_emod_of_nonneg (by omega)];exact e1
   have e3:IntKind.i64.wrap ((z:Int)+(i:Int))=(z:Int)+(i:Int):=by rw [IntKind.wrap_i64];omega
   have hk0:¬ m=0:=by omega
   generalize (z+i) % m=x at *
   obtain ⟨s,pv,ps,f,zk,y1,y2,y3,y4,y5,y6,y7,y8⟩:=n3 x hi1
   obtain ⟨pp,pc,hpv⟩:=Xc y5
   subst hpv
   have d1:=XI n2 y1
   have d2:=XI n2 y2
   have d3:=XI n2 y3
   have d4:=XI n2 y4
   have bx:=(Below.refl wr.heap.size wr).alloc (Nat.le_refl _) (.cells #[.string ⟨#[]⟩,.slice none 0 0,.int .i64 0,.int .i64 0] 148)
   have h7:=(n2.lt g rfl).2
   have n1':=(bx.cell (p:=⟨gb,2,none⟩) hG.lt).trans n1
   have d1':=(bx.cell (p:=⟨g,x*4,none⟩) h7).trans d1
   have d2':=(bx.cell (p:=⟨g,x*4+1,none⟩) h7).trans d2
   have d3':=(bx.cell (p:=⟨g,x*4+2,none⟩) h7).trans d3
   have d4':=(bx.cell (p:=⟨g,x*4+3,none⟩) h7).trans d4
   have B9:Below wr.heap.size wr (wr.alloc (.cells #[.string s,.slice pp ps.length pc,.int .i64 f,.int .i64 zk] 148)).drew:=(bA _).drew
   have HG9:=X1 (hG.below B9)
   have q0:=X1 (hT.trans (.of B9))
   have HN1:=X1 ((B9.cell (p:=⟨gb,2,none⟩) hG.lt).trans n1)
   have HN2:=X1 (YZ n2 (fun b hb _=>B9.block b hb))
   have HN3:=X1 (n3.keep (fun b hb _=>B9.block b hb))
   have i8:=X1 (YZ y5 (fun b hb _=>B9.block b hb))
   have U:Hid ((wr.alloc (.cells #[.string s,.slice pp ps.length pc,.int .i64 f,.int .i64 zk] 148)).drew.ownsRow 0 148 4 (.slice (some ⟨wr.heap.size,0,none⟩) 1 1) 1 [.string s,.slice pp ps.length pc,.int .i64 f,.int .i64 zk]):=X1 (World.ownsRow_lit (base:=0) (e:=148) (size:=4) wr #[.string s,.slice pp ps.length pc,.int .i64 f,.int .i64 zk] 1 (Nat.zero_le _) (by unfold maxLen;omega) rfl)
   clear hG hT n2 n3 y1 y2 y3 y4 y5 bx B9
   by_cases hkk:zk=kind
   ·subst hkk
    go_wp2_with fail
    go_region
    all_goals
     generalize hW9:(wr.alloc (.cells #[.string s,.slice pp ps.length pc,.int .i64 f,.int .i64 zk] 148)).drew=w9 at *
     have hw9:wr.heap.size < w9.heap.size:=by rw [← hW9];simp
     have hww:w.heap.size≤w9.heap.size:=q0.o.size
     have hrw:rb < w.heap.size:=Nat.lt_trans hup hlt
     generalize wr.heap.size=bx at *
     have x0:=XI U.o (j:=0) rfl
     have x3:=XI U.o (j:=3) rfl
     clear hW9
     go_wp2_with fail
     refine (Jb _ _).mono ?_
     rintro e51 w51 ⟨v51,n4,rfl,Z,l8,mn51,q5⟩
     have W:=X1 (TyM.of (M:=Mine) q5)
     have h8:=X1 (HG9.o.below q5)
     have i9:=X1 (q0.o.trans W.o)
     have b0:=X1 (XO U.o W.o (by unfold Mine;simp))
     have c3:=X1 (XO i8.o W.o (by unfold Mine;simp))
     have c0_51:=h8.o.c0
     clear q5
     obtain ⟨O,N,t0⟩:=Z.form l8
     subst t0
     have a9:=X1 Z
     clear Z
     have HPp:=X1 (PW.one (B:=w.heap.size) a9.o l8 (by have:=i9.o.size;omega))
     have P:=X1 (h8.o.below (bA (.cells #[.slice (some ⟨O,0,none⟩) n4.length N] 23)))
     have j0:=X1 (i9.o.trans (.of (bA (.cells #[.slice (some ⟨O,0,none⟩) n4.length N] 23))))
     have l:=X1 (XO (M:=Mine) b0.o (.of (bA (.cells #[.slice (some ⟨O,0,none⟩) n4.length N] 23))) (by unfold Mine;simp))
     have a2:=X1 (XO (M:=Mine) c3.o (.of (bA (.cells #[.slice (some ⟨O,0,none⟩) n4.length N] 23))) (by unfold Mine;simp))
     have x1:=XI l.o (j:=1) rfl
     have x2:=XI l.o (j:=2) rfl
     have c0_9:=P.o.c0
     by_cases hf:0 < f
     ·have HGd:=X1 (P.o.below (Below.refl _ _).drew)
      have HTd:=X1 (j0.o.trans (.of (Below.refl _ _).drew))
      have HPd:=X1 (HPp.o.below (Below.refl _ _).drew)
      have o1:=X1 (l.o.drew)
      have o3:=X1 (a2.o.drew)
      have hwf:IntKind.i64.wrap (f+1)=f+1:=by rw [IntKind.wrap_i64];omega
      go_wp2_with fail
      go_region_law (refine XM rfl 14 (.tmp 62) (.tmp 65) _ _ rfl (.pointer (some ⟨rb,0,none⟩)) (.int .i64 (f+1)) (by first | (simp [Act.eval];done) | simp [Act.eval,Act.put]) (by first | (simp [Act.eval];done) | simp [Act.eval,Act.put]) Tryz.f14 Tryz.func14 (by kernel_rfl) (by kernel_rfl) _ (Qv gb rb vb n HGd.o (by omega) (f+1) (by omega) (by omega)) ?_;intro v4 w4 h4;obtain ⟨z4,hz4,hv4,r9,l2⟩:=h4;subst hv4)
      all_goals
       have HG4:=X1 r9
       have HT4:=X1 (HTd.o.trans l2)
       have HP4:=X1 (HPd.o.ty l2)
       have i7:=X1 (XO o1.o l2 (by unfold Mine;simp))
       have o2:=X1 (XO o3.o l2 (by unfold Mine;simp))
       have c0_4:=r9.c0
       have x14:=XI i7.o (j:=1) rfl
       clear r9 l2
       have hw4:IntKind.i64.wrap ((ps.length:Int) - (z4:Int))=(ps.length:Int) - (z4:Int):=by rw [IntKind.wrap_i64];omega
       have h7:((ps.length:Int) - (z4:Int):Int)≤3:=by omega
       go_wp2_with fail
       refine (Gn.pick HG4.o (by omega) 2 (by omega) (by omega)).mono ?_
       rintro e53 w53 ⟨z53,hz53,rfl,j9,l3⟩
       have F:=X1 l3
       have h9:=X1 j9
       have o9:=X1 (HT4.o.trans F.o)
       have e6:=X1 (HP4.o.ty F.o)
       have b1:=X1 (XO i7.o F.o (by unfold Mine;simp))
       have c4:=X1 (XO o2.o F.o (by unfold Mine;simp))
       have c0_53:=h9.o.c0
       clear j9 l3
       go_wp2_with fail
       go_loopw [12,15,16] (fun sv tv uv wr=>∃ (j:Nat) (ls:List (List Tr.Nd)),j≤3∧tv = .int .i64 j∧ls.length=j+1∧ls.flatten.length≤1+j*(kd+1)∧PW w.heap.size wr sv ls∧Gn gb rb vb n (q+8+j * kd) k wr∧Ty w wr∧wr.ownsRow 0 148 4 (.slice (some ⟨bx,0,none⟩) 1 1) 1 [.string s,.slice pp ps.length pc,.int .i64 f,.int .i64 zk]∧wr.ownsRow 0 3 1 (.slice pp ps.length pc) ps.length (ps.map (Value.int .i64))) (fun _ t _ _=>(((ps.length:Int) - (z4:Int):Int) - intOf t).toNat)
       case atStart=>exact ⟨0,_,Nat.zero_le _,rfl,rfl,by rw [fl1];omega,e6.o,h9.o.mono (by omega),o9.o,b1.o,c4.o⟩
       case round =>
        obtain ⟨j,ls,s0,rfl,k3,hfl,j8,hG,hT,hX,hY⟩:=hrel
        have V:=X1 j8
        have i5:=X1 hG
        have j3:=X1 hT
        have U:=X1 hX
        have i8:=X1 hY
        have hjk:j * kd≤3 * kd:=Nat.mul_le_mul_right _ s0
        have s1:j*(kd+1)=j * kd+j:=by rw [Nat.mul_add,Nat.mul_one]
        have hsz:=hT.size
        have hle:ls.length≤4:=by omega
        have i6:=X1 k3
        clear k3
        clear j8 hG hT
        by_cases hj:(j:Int) < ((ps.length:Int) - (z4:Int):Int)
        ·have s2:j < ps.length:=by omega
         obtain ⟨py,s3⟩:∃ g,pp=some ⟨g,0,none⟩:=by
          rcases hY.2 with ⟨_,h0⟩ | ⟨g,c,_,h2,_⟩
          ·omega
          ·cases h2;exact ⟨g,rfl⟩
         subst s3
         have hx1:=XI hX (j:=1) rfl
         have hyj:=XI hY (j:=j) (u:= .int .i64 ps[j]) (by rw [List.getElem?_map,List.getElem?_eq_getElem s2];rfl)
         generalize ps[j]=pj at *
         clear hX hY
         go_wp2_with fail
         refine (HE.o _ _ _ _ i5.o (by omega) (by omega)).mono ?_
         rintro e54 w54 ⟨v54,l54,rfl,f7,g3,mn54,k0,l4⟩
         have H:=X1 l4
         have Q:=X1 k0
         have X:=X1 (j3.o.trans H.o)
         have a7:=X1 (V.o.ty H.o)
         have a0:=X1 (XO U.o H.o (by unfold Mine;simp))
         have a3:=X1 (XO i8.o H.o (by unfold Mine;simp))
         have c0_54:=Q.o.c0
         clear k0 l4
         obtain ⟨r4,r0,t1⟩:=f7.form g3
         subst t1
         have a5:=X1 f7
         clear f7
         by_cases hby:((ps.length:Int) - (z4:Int):Int) - (z53:Int)≤(j:Int)
         ·have n5:=X1 (fun w0=>ZU j w0 (by omega))
          have hdl:=Zi j
          generalize YB j=dc at *
          have s9:(⟨dc.toArray⟩:ByteArray).size≤100:=by show dc.toArray.size≤_;simp;omega
          go_wp2_with fail
          refine (n5.o _).mono ?_
          rintro e55 w55 ⟨rfl,q6⟩
          have D:=X1 (TyM.of (M:=Mine) q6)
          have i0:=X1 (Q.o.below q6)
          have p1:=X1 (X.o.trans D.o)
          have d9:=X1 (a5.o.ty D.o)
          have e8:=X1 (a7.o.ty D.o)
          have b2:=X1 (XO a0.o D.o (by unfold Mine;simp))
          have c5:=X1 (XO a3.o D.o (by unfold Mine;simp))
          have c0_55:=i0.o.c0
          clear q6
          have HO:=X1 (fun t (_hts:ByteArray.size t≤1000000)=>XF ⟨18,0,0,t,0⟩ [_] _ _ kd (pr1 d9.o g3) (by rw [fl1];omega) (by omega) (by simp))
          unfold ndV at HO
          go_wp2_with fail
          refine (HO.o _ (by first | omega | (rw [ByteArray.size_append];show 1+_≤_;omega))).mono ?_
          rintro e56 w56 ⟨v56,l56,rfl,f8,l9,mn56,q7⟩
          have I:=X1 (TyM.trans (TyM.of (M:=Mine) (bA _)) (TyM.of (M:=Mine) q7))
          have i1:=X1 ((i0.o.below (bA _)).below q7)
          have j1:=X1 (p1.o.trans I.o)
          have e9:=X1 (e8.o.ty I.o)
          have b3:=X1 (XO b2.o I.o (by unfold Mine;simp))
          have c6:=X1 (XO c5.o I.o (by unfold Mine;simp))
          have c0_56:=i1.o.c0
          clear q7
          obtain ⟨r5,r1,t2⟩:=f8.form l9
          subst t2
          have e0:=X1 f8
          clear f8
          obtain ⟨u4,g5,m2⟩:=e9.o
          obtain ⟨pp57,pc57,k8⟩:=Xc g5
          subst k8
          have j4:=X1 g5
          have q1:=X1 m2
          clear g5 m2
          go_wp2_with (at_builtin;refine wpList_append_own_at _ rfl _ _ 106 rfl (w.heap.size) 23 iP _ 1 24 Tryz.underlying106 hP hPz hPs hPb rfl (by decide) _ ls.length u4 rfl (j4.o.alloc _) ⟨w56.heap.size,0,none⟩ 1 1 [.slice (some ⟨r5,0,none⟩) l56.length r1] rfl rfl (XK _ [_] _ _ rfl) (by simp [Value.oneCell']) (by unfold maxLen;omega) (by omega) (by have:=j1.o.size;simp;omega) ?_)
          intro v57 w57 h1 m6 t6 u0
          obtain ⟨k4,r⟩:=pushed j4.o q1.o e0.o l9 h1 m6
          obtain ⟨sp57,sc57,s5⟩:=Xc h1
          subst s5
          have o5:=X1 k4
          have n6:=X1 (r.gn i1.o (by omega))
          have p2:=X1 (r.tyM j1.o (by omega))
          have b4:=X1 (r.row b3.o (by decide))
          have c8:=X1 (r.row c6.o (by decide))
          clear k4 r h1 m6 t6 u0
          go_wp2
          go_roundw
          case rel=>exact ⟨j+1,_,by omega,by go_num,by rw [List.length_append,i6.o];rfl,by rw [List.flatten_append,List.length_append,fl1];rw [Nat.add_mul,Nat.one_mul];omega,o5.o,n6.o.mono (by rw [Nat.add_mul,Nat.one_mul];omega),p2.o,b4.o,c8.o⟩
          case measure=>simp [intOf];omega
         have r8:¬ (((ps.length:Int) - (z4:Int):Int) - (z53:Int)≤(j:Int)):=hby
         obtain ⟨u5,g6,m3⟩:=a7.o
         obtain ⟨pp58,pc58,k9⟩:=Xc g6
         subst k9
         have j5:=X1 g6
         have q2:=X1 m3
         clear g6 m3
         go_wp2_with (at_builtin;refine wpList_append_own_at _ rfl _ _ 106 rfl (w.heap.size) 23 iP _ 1 24 Tryz.underlying106 hP hPz hPs hPb rfl (by decide) _ ls.length u5 rfl (j5.o.alloc _) ⟨w54.heap.size,0,none⟩ 1 1 [.slice (some ⟨r4,0,none⟩) l54.length r0] rfl rfl (XK _ [_] _ _ rfl) (by simp [Value.oneCell']) (by unfold maxLen;omega) (by omega) (by have:=X.o.size;simp;omega) ?_)
         intro v58 w58 h3 m8 t7 u1
         obtain ⟨k5,y⟩:=pushed j5.o q2.o a5.o g3 h3 m8
         obtain ⟨sp58,sc58,s6⟩:=Xc h3
         subst s6
         have o6:=X1 k5
         have n7:=X1 (y.gn Q.o (by omega))
         have p3:=X1 (y.tyM X.o (by omega))
         have b5:=X1 (y.row a0.o (by decide))
         have c9:=X1 (y.row a3.o (by decide))
         clear k5 y h3 m8 t7 u1
         go_wp2
         go_roundw
         case rel=>exact ⟨j+1,_,by omega,by go_num,by rw [List.length_append,i6.o];rfl,by rw [List.flatten_append,List.length_append,fl1];rw [Nat.add_mul,Nat.one_mul];omega,o6.o,n7.o.mono (by rw [Nat.add_mul,Nat.one_mul];omega),p3.o,b5.o,c9.o⟩
         case measure=>simp [intOf];omega
        ·have HO:=X1 (XF ⟨12,0,0,⟨#[]⟩,0⟩ ls _ _ (3 * kd+10) V.o.pr (by omega) (by omega) (by omega))
         unfold ndV at HO
         obtain ⟨vsz,m1,_⟩:=V.o
         obtain ⟨ppz,pcz,s4⟩:=Xc m1
         subst s4
         clear m1 hX hY
         go_wp2_with fail
         refine HO.o.mono ?_
         rintro e7 w7 ⟨v7,l7,rfl,g2,p7,m7,b7⟩
         obtain ⟨g7,c7,t5⟩:=g2.form p7
         subst t5
         have o0:=X1 (i5.o.below b7)
         have p9:=X1 (j3.o.trans (.of b7))
         have o4:=X1 g2
         clear b7 g2
         go_wp2
         go_ret2
         exact ⟨_,l7,true,rfl,fun _=>⟨o4.o,p7,by omega⟩,(fun h=>by cases h),o0.o.mono (by omega),p9.o,_,_,_,rfl⟩
     ·have h7:((ps.length:Int):Int)≤3:=by omega
      go_wp2_with fail
      refine (Gn.pick P.o (by omega) 2 (by omega) (by omega)).mono ?_
      rintro e59 w59 ⟨z59,hz59,rfl,k1,l5⟩
      have J:=X1 l5
      have i2:=X1 k1
      have p4:=X1 (j0.o.trans J.o)
      have f0:=X1 (HPp.o.ty J.o)
      have b6:=X1 (XO l.o J.o (by unfold Mine;simp))
      have d0:=X1 (XO a2.o J.o (by unfold Mine;simp))
      have c0_59:=i2.o.c0
      clear k1 l5
      go_wp2_with fail
      go_loopw [12,15,16] (fun sv tv uv wr=>∃ (j:Nat) (ls:List (List Tr.Nd)),j≤3∧tv = .int .i64 j∧ls.length=j+1∧ls.flatten.length≤1+j*(kd+1)∧PW w.heap.size wr sv ls∧Gn gb rb vb n (q+8+j * kd) k wr∧Ty w wr∧wr.ownsRow 0 148 4 (.slice (some ⟨bx,0,none⟩) 1 1) 1 [.string s,.slice pp ps.length pc,.int .i64 f,.int .i64 zk]∧wr.ownsRow 0 3 1 (.slice pp ps.length pc) ps.length (ps.map (Value.int .i64))) (fun _ t _ _=>(((ps.length:Int):Int) - intOf t).toNat)
      case atStart=>exact ⟨0,_,Nat.zero_le _,rfl,rfl,by rw [fl1];omega,f0.o,i2.o.mono (by omega),p4.o,b6.o,d0.o⟩
      case round =>
       obtain ⟨j,ls,s0,rfl,k3,hfl,j8,hG,hT,hX,hY⟩:=hrel
       have V:=X1 j8
       have i5:=X1 hG
       have j3:=X1 hT
       have U:=X1 hX
       have i8:=X1 hY
       have hjk:j * kd≤3 * kd:=Nat.mul_le_mul_right _ s0
       have s1:j*(kd+1)=j * kd+j:=by rw [Nat.mul_add,Nat.mul_one]
       have hsz:=hT.size
       have hle:ls.length≤4:=by omega
       have i6:=X1 k3
       clear k3
       clear j8 hG hT
       by_cases hj:(j:Int) < ((ps.length:Int):Int)
       ·have s2:j < ps.length:=by omega
        obtain ⟨py,s3⟩:∃ g,pp=some ⟨g,0,none⟩:=by
         rcases hY.2 with ⟨_,h0⟩ | ⟨g,c,_,h2,_⟩
         ·omega
         ·cases h2;exact ⟨g,rfl⟩
        subst s3
        have hx1:=XI hX (j:=1) rfl
        have hyj:=XI hY (j:=j) (u:= .int .i64 ps[j]) (by rw [List.getElem?_map,List.getElem?_eq_getElem s2];rfl)
        generalize ps[j]=pj at *
        clear hX hY
        go_wp2_with fail
        refine (HE.o _ _ _ _ i5.o (by omega) (by omega)).mono ?_
        rintro e60 w60 ⟨v60,l60,rfl,f9,g4,mn60,k2,l6⟩
        have K:=X1 l6
        have S:=X1 k2
        have Y:=X1 (j3.o.trans K.o)
        have a8:=X1 (V.o.ty K.o)
        have a1:=X1 (XO U.o K.o (by unfold Mine;simp))
        have a4:=X1 (XO i8.o K.o (by unfold Mine;simp))
        have c0_60:=S.o.c0
        clear k2 l6
        obtain ⟨r6,r2,t3⟩:=f9.form g4
        subst t3
        have a6:=X1 f9
        clear f9
        by_cases hby:((ps.length:Int):Int) - (z59:Int)≤(j:Int)
        ·have n5:=X1 (fun w0=>ZU j w0 (by omega))
         have hdl:=Zi j
         generalize YB j=dc at *
         have s9:(⟨dc.toArray⟩:ByteArray).size≤100:=by show dc.toArray.size≤_;simp;omega
         go_wp2_with fail
         refine (n5.o _).mono ?_
         rintro e61 w61 ⟨rfl,q8⟩
         have E:=X1 (TyM.of (M:=Mine) q8)
         have i3:=X1 (S.o.below q8)
         have p5:=X1 (Y.o.trans E.o)
         have e4:=X1 (a6.o.ty E.o)
         have f5:=X1 (a8.o.ty E.o)
         have b8:=X1 (XO a1.o E.o (by unfold Mine;simp))
         have d5:=X1 (XO a4.o E.o (by unfold Mine;simp))
         have c0_61:=i3.o.c0
         clear q8
         have HO:=X1 (fun t (_hts:ByteArray.size t≤1000000)=>XF ⟨18,0,0,t,0⟩ [_] _ _ kd (pr1 e4.o g4) (by rw [fl1];omega) (by omega) (by simp))
         unfold ndV at HO
         go_wp2_with fail
         refine (HO.o _ (by first | omega | (rw [ByteArray.size_append];show 1+_≤_;omega))).mono ?_
         rintro e62 w62 ⟨v62,l62,rfl,g0,m0,mn62,q9⟩
         have L:=X1 (TyM.trans (TyM.of (M:=Mine) (bA _)) (TyM.of (M:=Mine) q9))
         have i4:=X1 ((i3.o.below (bA _)).below q9)
         have j2:=X1 (p5.o.trans L.o)
         have f6:=X1 (f5.o.ty L.o)
         have b9:=X1 (XO b8.o L.o (by unfold Mine;simp))
         have d6:=X1 (XO d5.o L.o (by unfold Mine;simp))
         have c0_62:=i4.o.c0
         clear q9
         obtain ⟨r7,r3,t4⟩:=g0.form m0
         subst t4
         have e5:=X1 g0
         clear g0
         obtain ⟨u6,g8,m4⟩:=f6.o
         obtain ⟨pp63,pc63,l0⟩:=Xc g8
         subst l0
         have j6:=X1 g8
         have q3:=X1 m4
         clear g8 m4
         go_wp2_with (at_builtin;refine wpList_append_own_at _ rfl _ _ 106 rfl (w.heap.size) 23 iP _ 1 24 Tryz.underlying106 hP hPz hPs hPb rfl (by decide) _ ls.length u6 rfl (j6.o.alloc _) ⟨w62.heap.size,0,none⟩ 1 1 [.slice (some ⟨r7,0,none⟩) l62.length r3] rfl rfl (XK _ [_] _ _ rfl) (by simp [Value.oneCell']) (by unfold maxLen;omega) (by omega) (by have:=j2.o.size;simp;omega) ?_)
         intro v63 w63 h5 m9 t8 u2
         obtain ⟨k6,A⟩:=pushed j6.o q3.o e5.o m0 h5 m9
         obtain ⟨sp63,sc63,s7⟩:=Xc h5
         subst s7
         have o7:=X1 k6
         have n8:=X1 (A.gn i4.o (by omega))
         have p6:=X1 (A.tyM j2.o (by omega))
         have c1:=X1 (A.row b9.o (by decide))
         have d7:=X1 (A.row d6.o (by decide))
         clear k6 A h5 m9 t8 u2
         go_wp2
         go_roundw
         case rel=>exact ⟨j+1,_,by omega,by go_num,by rw [List.length_append,i6.o];rfl,by rw [List.flatten_append,List.length_append,fl1];rw [Nat.add_mul,Nat.one_mul];omega,o7.o,n8.o.mono (by rw [Nat.add_mul,Nat.one_mul];omega),p6.o,c1.o,d7.o⟩
         case measure=>simp [intOf];omega
        have r8:¬ (((ps.length:Int):Int) - (z59:Int)≤(j:Int)):=hby
        obtain ⟨u7,g9,m5⟩:=a8.o
        obtain ⟨pp64,pc64,l1⟩:=Xc g9
        subst l1
        have j7:=X1 g9
        have q4:=X1 m5
        clear g9 m5
        go_wp2_with (at_builtin;refine wpList_append_own_at _ rfl _ _ 106 rfl (w.heap.size) 23 iP _ 1 24 Tryz.underlying106 hP hPz hPs hPb rfl (by decide) _ ls.length u7 rfl (j7.o.alloc _) ⟨w60.heap.size,0,none⟩ 1 1 [.slice (some ⟨r6,0,none⟩) l60.length r2] rfl rfl (XK _ [_] _ _ rfl) (by simp [Value.oneCell']) (by unfold maxLen;omega) (by omega) (by have:=Y.o.size;simp;omega) ?_)
        intro v64 w64 h6 n0 t9 u3
        obtain ⟨k7,C⟩:=pushed j7.o q4.o a6.o g4 h6 n0
        obtain ⟨sp64,sc64,s8⟩:=Xc h6
        subst s8
        have o8:=X1 k7
        have n9:=X1 (C.gn S.o (by omega))
        have p8:=X1 (C.tyM Y.o (by omega))
        have c2:=X1 (C.row a1.o (by decide))
        have d8:=X1 (C.row a4.o (by decide))
        clear k7 C h6 n0 t9 u3
        go_wp2
        go_roundw
        case rel=>exact ⟨j+1,_,by omega,by go_num,by rw [List.length_append,i6.o];rfl,by rw [List.flatten_append,List.length_append,fl1];rw [Nat.add_mul,Nat.one_mul];omega,o8.o,n9.o.mono (by rw [Nat.add_mul,Nat.one_mul];omega),p8.o,c2.o,d8.o⟩
        case measure=>simp [intOf];omega
       ·have HO:=X1 (XF ⟨12,0,0,⟨#[]⟩,0⟩ ls _ _ (3 * kd+10) V.o.pr (by omega) (by omega) (by omega))
        unfold ndV at HO
        obtain ⟨vsz,m1,_⟩:=V.o
        obtain ⟨ppz,pcz,s4⟩:=Xc m1
        subst s4
        clear m1 hX hY
        go_wp2_with fail
        refine HO.o.mono ?_
        rintro e7 w7 ⟨v7,l7,rfl,g2,p7,m7,b7⟩
        obtain ⟨g7,c7,t5⟩:=g2.form p7
        subst t5
        have o0:=X1 (i5.o.below b7)
        have p9:=X1 (j3.o.trans (.of b7))
        have o4:=X1 g2
        clear b7 g2
        go_wp2
        go_ret2
        exact ⟨_,l7,true,rfl,fun _=>⟨o4.o,p7,by omega⟩,(fun h=>by cases h),o0.o.mono (by omega),p9.o,_,_,_,rfl⟩
   ·have hkb:(zk != kind)=true:=by simp [hkk]
    go_wp2_with fail
    go_region
    all_goals
     go_wp2
     go_roundw
     case rel=>exact ⟨i+1,by omega,by go_num,HG9.o,q0.o,HN1.o,HN2.o,HN3.o⟩
     case measure=>simp [intOf];omega
  ·have hie:i=m:=by omega
   subst hie
   have HG:=X1 hG
   have HT:=X1 hT
   clear hG hT n1 n2 n3
   go_wp2
   go_ret2
   exact ⟨_,[],false,rfl,(fun h=>by cases h),fun _=>HG.o.below (bA _),(HG.o.below (bA _)).mono (by omega),HT.o.trans (.of (bA _)),_,_,_,rfl⟩
theorem e_all [LB] (gb rb:Nat) (vb:Value) (n:Nat) (HRE:∀ d kd,EAt gb rb vb n d kd→kd≤1000000→Jr gb rb vb n d kd):EAt gb rb vb n 1 260∧EAt gb rb vb n 3 6860∧EAt gb rb vb n 4 34360:=by
 have st:∀ d kd,EAt gb rb vb n d kd→kd≤1000000→EAt gb rb vb n (d+1) (5 * kd+60):=fun d kd h hk=>e_step gb rb vb n d kd h (of_at gb rb vb n d kd h (HRE d kd h hk) hk) (call_any gb rb vb n d kd h hk) hk
 have h0:=e_zero gb rb vb n
 have h1:=st 0 40 h0 (by decide)
 have h2:=st 1 260 h1 (by decide)
 have h3:=st 2 1360 h2 (by decide)
 exact ⟨h1,h3,st 3 6860 h3 (by decide)⟩
theorem gn_new [LB] {rb n p:Nat} {vb:Value} {w:World} (h:Rd w rb vb n p) (z:Int) (hz:0≤z) (hz2:z≤1000):Gn w.heap.size rb vb n p 0 (w.alloc (.cells #[.pointer (some ⟨rb,0,none⟩),.slice none 0 0,.slice none 0 0,.int .i64 0,.int .i64 z] 116)) :=
 ⟨⟨p,Nat.le_refl _,h.keep (bA _)⟩,h.lt,JD _ _ _,by simp,⟨_,[],by simp,World.ownsRow_nil _ _ _ _,fun _ hi=>absurd hi (Nat.not_lt_zero _)⟩,⟨_,0,[],by simp,World.ownsRow_nil _ _ _ _,Nat.zero_le _,fun _ hi=>absurd hi (Nat.not_lt_zero _)⟩,⟨0,Nat.zero_le _,by simp⟩,⟨z,by omega,hz2,by simp⟩,fun j=>by simp,Nat.zero_le _⟩
set_option maxRecDepth 100000 in
set_option maxHeartbeats 4000000 in
theorem program_any [LB] (rb:Nat) (vb:Value) (n:Nat) (HRE:∀ gb d kd,EAt gb rb vb n d kd→kd≤1000000→Jr gb rb vb n d kd) (HDF:∀ gb,EAt gb rb vb n 1 260→EAt gb rb vb n 3 6860→DefAt gb rb vb n) (q:Nat) (w:World) (h:Rq rb vb n q w) (hq:q≤90000000):Calls Tryz.prog 36 #[.pointer (some ⟨rb,0,none⟩)] w fun e w'=>RTk rb vb n q 250010 w e w':=by
 have hrw:=h.lt
 have b0:Below w.heap.size w (w.alloc (.cells #[.slice none 0 0] 25)):=bA _
 have HR0:=X1 (h.below b0)
 have HT0:Hid (Ty w (w.alloc (.cells #[.slice none 0 0] 25))):=X1 (.of b0)
 have HX0:Hid ((w.alloc (.cells #[.slice none 0 0] 25)).heap[w.heap.size]?=some (.cells #[.slice none 0 0] 25)):=X1 (Xi w _)
 have HRE:=X1 HRE
 have HDF:=X1 HDF
 clear b0 h
 go_enter Tryz.func36,Tryz.ntmps36
 go_wp2_with fail
 refine (Rq.pick HR0.o (by omega) 80 (by omega) (by omega)).mono ?_
 rintro e w1 ⟨z1,hz1,rfl,hr1,j⟩
 obtain ⟨p1,hp1,i⟩:=hr1
 have b:=gn_new i (20+(z1:Int)) (by omega) (by omega)
 have hl1:=i.lt
 have b1:Below w1.heap.size w1 (w1.alloc (.cells #[.pointer (some ⟨rb,0,none⟩),.slice none 0 0,.slice none 0 0,.int .i64 0,.int .i64 (20+(z1:Int))] 116)):=bA _
 have b2:Below (w1.alloc (.cells #[.pointer (some ⟨rb,0,none⟩),.slice none 0 0,.slice none 0 0,.int .i64 0,.int .i64 (20+(z1:Int))] 116)).heap.size (w1.alloc (.cells #[.pointer (some ⟨rb,0,none⟩),.slice none 0 0,.slice none 0 0,.int .i64 0,.int .i64 (20+(z1:Int))] 116)) ((w1.alloc (.cells #[.pointer (some ⟨rb,0,none⟩),.slice none 0 0,.slice none 0 0,.int .i64 0,.int .i64 (20+(z1:Int))] 116)).alloc (.cells #[] 23)):=bA _
 have hf1:Fm w1.heap.size 0 (w1.alloc (.cells #[.pointer (some ⟨rb,0,none⟩),.slice none 0 0,.slice none 0 0,.int .i64 0,.int .i64 (20+(z1:Int))] 116)):=⟨none,0,0,Nat.le_refl _,by simp⟩
 have g:=X1 (b.below b2)
 have HF2:=X1 (hf1.ty b.ty b.lt (.of b2))
 have HT2:=X1 (((HT0.o.trans j).trans (.of b1)).trans (.of b2))
 have HX2:=X1 (TyM.same (TyM.same (Ty.same j HX0.o Xv) b1) b2)
 clear b b1 b2 hf1 j i
 go_wp2_with fail
 refine (Gn.pick g.o (by omega) 5 (by omega) (by omega)).mono ?_
 rintro e w3 ⟨z3,hz3,rfl,hg3,c⟩
 have HF3:=X1 (HF2.o.ty g.o.ty g.o.lt c)
 have HG3:=X1 hg3
 have HT3:=X1 (HT2.o.trans c)
 have HX3:=X1 (Ty.same c HX2.o Xv)
 clear hg3 c
 obtain ⟨x1,x3,x4⟩:=e_all w1.heap.size rb vb n (HRE.o w1.heap.size)
 have HFL:=X1 (file_any w1.heap.size rb vb n x3 x4 (HDF.o _ x1 x3) p1.succ (w1.heap.size+1) (1+z3) w3 HG3.o HF3.o (by omega) (by omega))
 rw [show ((1+z3:Nat):Int)=1+(z3:Int) from by omega] at HFL
 clear x1 x3 x4
 go_wp2_with fail
 refine HFL.o.mono ?_
 rintro e w4 ⟨v4,l4,k4,rfl,f,pn4,mn4,hg4,k⟩
 obtain ⟨g4,c4,hv4⟩:=f.form pn4
 subst hv4
 obtain ⟨p4,hp4,hr4⟩:=hg4.R
 have a:=Tf.same k HX3.o ZO
 have t0:=(Xo a).1
 have ft:=(Xo a).2
 have hty:tyAt w4 w.heap.size≠some 35:=by unfold tyAt;rw [a];decide
 have HN4:Hid (NR (w4.setCell ⟨w.heap.size,0,none⟩ (.slice (some ⟨g4,0,none⟩) l4.length c4)) (.slice (some ⟨g4,0,none⟩) l4.length c4) l4):=X1 ⟨Yb f.1 hty,f.2⟩
 have HR4:=X1 (Rq.set (o:=0) (v:= .slice (some ⟨g4,0,none⟩) l4.length c4) (show Rq rb vb n (q+250010) w4 from ⟨p4,by omega,hr4⟩) hrw)
 have HT4:=X1 (Zk (o:=0) (v:= .slice (some ⟨g4,0,none⟩) l4.length c4) ((Ty.tf HT3.o).trans k) (Nat.le_refl _))
 clear f a hg4 k hr4
 go_wp2
 exact bodyPost_ret (v:= .agg #[.slice (some ⟨g4,0,none⟩) l4.length c4]) (by simp [results,Tryz.results36,go_sem,t0]) rfl ⟨_,_,rfl,HN4.o,by omega,HR4.o,HT4.o⟩
end Go.Proofs.YtimbaebigjjkaaaGreatDoor
