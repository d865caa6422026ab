/- Vi, Hl, Hq, Ia. -/
import Derived.Test.YthbfdaifgnhkbaaGreatDoorM26
import Derived.Test.YthbfdaifgnhkbaaGreatDoorM18
import Derived.Test.YthbfdaifgnhkbaaGreatDoorM19
import Derived.Test.YthbfdaifgnhkbaaGreatDoorM21
import Derived.Test.YthbfdaifgnhkbaaGreatDoorM22
import Derived.Test.YthbfdaifgnhkbaaGreatDoorM23
import Derived.Test.YthbfdaifgnhkbaaGreatDoorM01
namespace Go.Proofs.YthbfdaifgnhkbaaGreatDoor
open Go.RowKit
def KB (w:World):Type:={x:World // Below w.heap.size w x}
def KB.w {w:World} (q:KB w):World:=q.1
theorem KB.below {w:World} (q:KB w):Below w.heap.size w q.w:=q.2
theorem ZR {P:Program} {f:FuncId} {args:Array Value} {r:Value} {w:World} (h:∀ w1,Below w.heap.size w w1→Calls P f args w1 fun e w'=>e = .returned r∧Below w1.heap.size w1 w') (q:KB w) :
  Calls P f args q.w fun e w''=>e = .returned r∧∃ q':KB w,w''=q'.w :=
 (h q.w q.2).mono fun _ w2 hw=>⟨hw.1,⟨⟨w2,q.2.trans (hw.2.mono q.2.size)⟩,rfl⟩⟩
theorem row_below {w w1:World} {base:Nat} {e:TypeId} {size:Nat} {v:Value} {n:Nat} {xs:List Value} (h:w.ownsRow base e size v n xs) (hb:Below w.heap.size w w1):w1.ownsRow base e size v n xs:=by
 have hg:w.grownBy w1 none:=⟨hb.os,hb.tape,hb.output,hb.size,fun k hk _=>hb.block k hk⟩
 refine h.kept hg ?_
 cases hv:v.ownBlock with
 | none=>exact .inl rfl
 | some k=>exact .inr (by simp)
def XY (hs:List Nat):List Nat→Nat→Nat
 | [],h=>h
 | x :: r,h=>XY hs r (if h < hs[x]?.getD 0+1 then hs[x]?.getD 0+1 else h)
def Zx (ns:List Tr.Nd):List (Tr.Nd × List Nat)→List Nat→Bool
 | [],_=>true
 | (d,k) :: r,hs=>!decide (50 < XY hs k 0) && Xb d && Xo ns d.kind k && Zx ns r (hs++[XY hs k 0])
def Zt (ns:List Tr.Nd):Int:=match ns.getLast? with
 | some d=>d.kind
 | none=>0
def XR (ns:List Tr.Nd):Bool:=Xj ns.length 1 5000 && (Zt ns == 24) && Y3 ns && Zx ns (ns.zip (Xk ns)) []
theorem Tr.hmax_at (hs ls:List Nat) (j h:Nat) (hj:j < ls.length) (hx:ls[j] < hs.length):XY hs (ls.drop j) h=XY hs (ls.drop (j+1)) (if h < hs[ls[j]]+1 then hs[ls[j]]+1 else h):=by
 rw [List.drop_eq_getElem_cons hj,XY];simp [hx]
theorem Tr.vgo_at (ns:List Tr.Nd) (ks:List (List Nat)) (i:Nat) (hs:List Nat) (h1:i < ns.length) (h2:i < ks.length) :
  Zx ns ((ns.zip ks).drop i) hs=(!decide (50 < XY hs ks[i] 0) && Xb ns[i] && Xo ns ns[i].kind ks[i] && Zx ns ((ns.zip ks).drop (i+1)) (hs++[XY hs ks[i] 0])):=by
 rw [List.drop_eq_getElem_cons (by simp;omega),List.getElem_zip];rfl
set_option maxRecDepth 100000 in
set_option maxHeartbeats 4000000 in
theorem valid_any (ns:List Tr.Nd) (tg tc:Nat) (w:World) (hn:ns.length≤1048576) (ht:NodesAt w tg ns) :
  Calls Tryz.prog 14 #[.agg #[.slice (some ⟨tg,0,none⟩) ns.length tc]] w fun e w'=>e = .returned (.bool (XR ns))∧Below w.heap.size w w':=by
 obtain ⟨iI,hI,hIz,hIs,hIb⟩:=info_parts Tryz.infoInt
 have r1:Below w.heap.size w (w.alloc (.cells #[.slice (some ⟨tg,0,none⟩) ns.length tc] 25)):=bA _
 have HT:=X1 ht
 cases hin:Xj ns.length 1 5000
 ·have HD:Hid (XR ns=false):=X1 (by simp [XR,hin])
  clear ht
  go_enter Tryz.func14,Tryz.ntmps14
  go_wp2_with (go_at_call 29;refine (Yx _ _ _ _).mono ?_;rintro e w' ⟨rfl,rfl⟩)
  go_ret
  exact ⟨X7 HD.out.symm,r1⟩
 ·obtain ⟨hn1,hn2⟩:=YR hin
  obtain ⟨m,hm⟩:∃ m,ns.length=m+1:=⟨ns.length - 1,by omega⟩
  obtain ⟨a0,_⟩:=ht.2 m (by omega)
  have HLK:=X1 (show Zt ns=(ns[m]'(by omega)).kind by
   have e:ns.getLast?=some (ns[m]'(by omega)):=by rw [List.getLast?_eq_getElem?,show ns.length - 1=m from by omega,List.getElem?_eq_getElem (by omega)]
   unfold Zt;rw [e])
  rw [hm] at r1
  have a1:=(r1.cell (p:=⟨tg,m*5,none⟩) ht.1).trans a0
  clear ht a0
  generalize (ns[m]'(by omega)).kind=lk at *
  have hin2:Xj ((m:Int)+1) 1 5000=true:=by rw [← hin,hm];rfl
  cases hk:(lk != 24)
  ·have HLK2:Hid (Zt ns=24):=X1 (by simp at hk;rw [HLK.out,hk])
   have HB0:=X1 r1
   cases hkg:Y3 ns
   ·have HD:Hid (XR ns=false):=X1 (by simp [XR,hkg])
    go_enter Tryz.func14,Tryz.ntmps14
    go_wp2_with (first | (go_at_call 29;refine (Yx _ _ _ _).mono ?_;rintro e w' ⟨rfl,rfl⟩) | (go_at_call 30;rw [← hm];refine (kids_any ns tg tc _ hn (by have:=HT.out.below HB0.out;rwa [← hm] at this)).mono ?_;rintro e w1 ⟨g4,c4,vs,rfl,ho4,hrows,hb1⟩;rw [hm,World.size_alloc] at hb1 ho4 hrows))
    go_ret
    exact ⟨X7 HD.out.symm,r1.trans (hb1.mono (Nat.le_succ _))⟩
   ·have hkl:=Zv hkg
    have HD:Hid (XR ns=Zx ns (ns.zip (Xk ns)) []):=X1 (by simp [XR,hkg,HLK2.out,hin])
    have HKL:=X1 (Kq ns)
    have HKN:=X1 hkl
    go_enter Tryz.func14,Tryz.ntmps14
    go_wp2_with (first | (go_at_call 29;refine (Yx _ _ _ _).mono ?_;rintro e w' ⟨rfl,rfl⟩) | (go_at_call 30;rw [← hm];refine (kids_any ns tg tc _ hn (by have:=HT.out.below HB0.out;rwa [← hm] at this)).mono ?_;rintro e w1 ⟨g4,c4,vs,rfl,ho4,hrows,hb1⟩;rw [hm,World.size_alloc] at hb1 ho4 hrows))
    have HB1:Hid (Below w.heap.size w w1):=X1 (r1.trans (hb1.mono (Nat.le_succ _)))
    have HO4:=X1 ho4
    have HRW:=X1 hrows
    have hbox:w1.cell? ⟨w.heap.size,0,none⟩=some (.slice (some ⟨tg,0,none⟩) (m+1) tc):=(hb1.cell (p:=⟨w.heap.size,0,none⟩) (Nat.lt_succ_self _)).trans (by simp)
    have hbl:w.heap.size < w1.heap.size:=Nat.lt_of_lt_of_le (by simp) hb1.size
    have HBX:=X1 hbox
    clear hrows ho4 hb1 hbox a1
    go_wp2
    go_loopw [6,7] (fun v6 t wr=>∃ (i:Nat) (hs:List Nat) (g6 c6:Nat),i≤m+1∧t = .int .i64 i∧v6 = .slice (some ⟨g6,0,none⟩) i c6∧hs.length=i∧wr.ownsRow w1.heap.size 3 1 (.slice (some ⟨g6,0,none⟩) i c6) i (hs.map vint)∧Below w1.heap.size w1 wr∧(∀ x∈hs,x≤50) ∧
      Zx ns (ns.zip (Xk ns)) []=Zx ns ((ns.zip (Xk ns)).drop i) hs) (fun _ t _=>m+1 - (intOf t).toNat)
    case atStart =>
     refine ⟨0,[],w1.heap.size,0,Nat.zero_le _,rfl,rfl,rfl,?_,?_,(fun x h=>by cases h),rfl⟩
     ·exact World.ownsRow_lit (base:=w1.heap.size) (e:=3) (size:=1) w1 #[] 0 (Nat.le_refl _) (Nat.zero_le _) rfl
     ·exact bA _
    case round =>
     obtain ⟨i,hs,g6,c6,him,rfl,rfl,hhl,ho6,hB,h50,he⟩:=hrel
     have HE:=X1 he
     have H50:=X1 h50
     clear he h50
     by_cases hlt:i < m+1
     ·have hik:i < (Xk ns).length:=by have:=HKN.out;omega
      obtain ⟨gi,ci,hv,_,_,_,hints,hci⟩:=HRW.out.2 i hik
      have HKT:=X1 (HKL.out i hik)
      have hshort:=QL ns i hik
      have c4i:=(hB.cell (p:=⟨g4,i,none⟩) (YH HO4.out).2.2).trans ((HO4.out.cellAt i (by omega)).trans hv)
      have HI2:=X1 (hints.below hB)
      have HV:=X1 (Tr.vgo_at ns (Xk ns) i hs (by omega) hik)
      have HC4:=X1 ((HO4.out.cellAt i (by omega)).trans hv)
      have HIW:=X1 hints
      clear hv hints
      generalize (Xk ns)[i]=ls at *
      obtain ⟨_,hg6b,hg6⟩:=YH ho6
      go_wp2
      go_loop [8,9] (fun a b=>∃ k h:Nat,k≤ls.length∧b = .int .i64 k∧a = .int .i64 h∧h≤51∧XY hs (ls.drop k) h=XY hs ls 0) (fun _ b=>ls.length - (intOf b).toNat)
      case atStart=>exact ⟨0,0,Nat.zero_le _,rfl,rfl,by omega,by rw [List.drop_zero]⟩
      case round =>
       obtain ⟨k,h,hk,rfl,rfl,hh,hm2⟩:=hrel
       have HM:=X1 hm2
       clear hm2
       by_cases hkl2:k < ls.length
       ·have b0:=HI2.out.2 k hkl2
        rw [Nat.zero_add] at b0
        have hx:ls[k] < hs.length:=by have:=HKT.out ls[k] (List.getElem_mem _);omega
        have b1:wr.cell? ⟨g6,ls[k],none⟩=some (.int .i64 hs[ls[k]]):=by rw [ho6.cellAt ls[k] (by omega)];simp [hx,vint]
        have HN:=X1 (Tr.hmax_at hs ls k h hkl2 hx)
        have hy:=H50.out hs[ls[k]] (List.getElem_mem _)
        generalize hs[ls[k]]=y at *
        generalize ls[k]=x at *
        by_cases hc:(h:Int) < (y:Int)+1
        ·go_wp2
         go_round
         case rel=>exact ⟨k+1,y+1,by omega,by go_num,by go_num,by omega,by rw [← HM.out,HN.out,if_pos (by omega)]⟩
         case measure=>simp [intOf];omega
        ·go_wp2
         go_round
         case rel=>exact ⟨k+1,h,by omega,by go_num,rfl,by omega,by rw [← HM.out,HN.out,if_neg (by omega)]⟩
         case measure=>simp [intOf];omega
       ·have HH:=X1 (show XY hs ls 0=h by rw [← HM.out,List.drop_of_length_le (by omega)];rfl)
        have hw1:=hB.size
        go_wp2_with (at_builtin;refine wpList_append_own_at _ rfl _ _ 30 rfl w1.heap.size 3 iI (.int .i64 0) 1 8 Tryz.underlying30 hI hIz hIs hIb rfl (by decide) (.slice (some ⟨g6,0,none⟩) i c6) i (hs.map vint) rfl (ho6.alloc _) ⟨wr.heap.size,0,none⟩ 1 1 [.int .i64 h] rfl rfl (ZT _ _ _) (by simp [Value.oneCell']) (by unfold maxLen;omega) (by omega) (by simp;omega) ?_)
        intro v7 w2 hown2 hgrow2 hnil2 hat2
        obtain ⟨g7,c7,rfl,hg7⟩:=QA hown2 hnil2 (by simpa [Value.ownBlock] using hat2)
        have hB2:Below w1.heap.size w1 w2:=(hB.alloc hw1 _).grown hgrow2 (by simp;omega) (fun q e=>by simp [Value.ownBlock] at e;omega)
        clear hgrow2 hnil2 hat2 c4i
        have hBw:Below w.heap.size w w2:=HB1.out.trans (hB2.mono (Nat.le_of_lt hbl))
        have hN2:=HT.out.below hBw
        obtain ⟨n0,n1,n2,n3,n4⟩:=hN2.2 i (by omega)
        have x0:=(hB2.cell (p:=⟨w.heap.size,0,none⟩) hbl).trans HBX.out
        have x1:=(hB2.cell (p:=⟨g4,i,none⟩) (YH HO4.out).2.2).trans HC4.out
        have hsz:=hB2.size
        have htg:=hN2.1
        have hg42:g4 < w2.heap.size:=Nat.lt_of_lt_of_le (YH HO4.out).2.2 hsz
        have f0:=fun q:KB w2=>(q.below.cell (p:=⟨w.heap.size,0,none⟩) (Nat.lt_of_lt_of_le hbl hsz)).trans x0
        have f1:=fun q:KB w2=>(q.below.cell (p:=⟨g4,i,none⟩) hg42).trans x1
        have f2:=fun q:KB w2=>(q.below.cell (p:=⟨tg,i*5,none⟩) htg).trans n0
        have f3:=fun q:KB w2=>(q.below.cell (p:=⟨tg,i*5+1,none⟩) htg).trans n1
        have f4:=fun q:KB w2=>(q.below.cell (p:=⟨tg,i*5+2,none⟩) htg).trans n2
        have f5:=fun q:KB w2=>(q.below.cell (p:=⟨tg,i*5+3,none⟩) htg).trans n3
        have f6:=fun q:KB w2=>(q.below.cell (p:=⟨tg,i*5+4,none⟩) htg).trans n4
        have hP:=fun w' (_:Below w2.heap.size w2 w')=>plain_any (ns[i]'(by omega)).kind (ns[i]'(by omega)).op (ns[i]'(by omega)).n (ns[i]'(by omega)).kids (ns[i]'(by omega)).text w'
        have hKK:=fun w' (hb:Below w2.heap.size w2 w')=>kidsOk_any (ns[i]'(by omega)).kind ns ls tg tc gi ci w' (by omega) (hN2.below hb) ((HIW.out.below hB2).below hb) (fun x hx=>by have:=HKT.out x hx;omega) hci
        have HFIN:Hid (XR ns=(!decide (50 < h) && Xb (ns[i]'(by omega)) && Xo ns (ns[i]'(by omega)).kind ls && Zx ns ((ns.zip (Xk ns)).drop (i+1)) (hs++[h]))):=X1 (by rw [HD.out,HE.out,HV.out,HH.out])
        clear n0 n1 n2 n3 n4 x0 x1 hN2 HV HE
        generalize (ns[i]'(by omega))=d at *
        rw [hm] at hKK
        have HP:=X1 hP
        have HK:=X1 hKK
        clear hP hKK
        haveI hne:Nonempty (KB w2):=⟨⟨_,Below.refl _ _⟩⟩
        by_cases h51:50 < h
        ·go_wp2
         have hg50:(50:Int) < (h:Int):=by omega
         refine XQ (KB.w (w:=w2)) (by kernel_rfl) (by kernel_rfl) ⟨⟨_,below_drewN (Below.refl _ _) _⟩,rfl⟩ ?_
         repeat (go_big_quiet_step (fail))
         refine wpQuiet_nil ?_
         rintro _ ⟨q,rfl⟩
         have hBq:=q.below
         go_wp2
         go_ret
         refine ⟨X7 ?_,hBw.trans (hBq.mono (by omega))⟩
         rw [HFIN.out];simp [h51]
        ·cases hp:Xb d
         ·have hP2:=HP.out
          simp only [show Xb ⟨d.kind,d.op,d.n,d.text,d.kids⟩=false from hp] at hP2
          have HP2:=X1 hP2
          clear hP2
          go_wp2
          have hg50:¬ ((50:Int) < (h:Int)):=by omega
          refine XQ (KB.w (w:=w2)) (by kernel_rfl) (by kernel_rfl) ⟨⟨_,below_drewN (Below.refl _ _) _⟩,rfl⟩ ?_
          repeat (go_big_quiet_step ((go_at_call 31;exact ZR HP2.out _)))
          refine wpQuiet_nil ?_
          rintro _ ⟨q,rfl⟩
          have hBq:=q.below
          go_wp2
          go_ret
          refine ⟨X7 ?_,hBw.trans (hBq.mono (by omega))⟩
          rw [HFIN.out,hp];simp
         ·have hP2:=HP.out
          simp only [show Xb ⟨d.kind,d.op,d.n,d.text,d.kids⟩=true from hp] at hP2
          have HP2:=X1 hP2
          clear hP2
          cases hko:Xo ns d.kind ls
          ·have hK2:=HK.out
           simp only [hko] at hK2
           have HK2:=X1 hK2
           clear hK2
           go_wp2
           have hg50:¬ ((50:Int) < (h:Int)):=by omega
           refine XQ (KB.w (w:=w2)) (by kernel_rfl) (by kernel_rfl) ⟨⟨_,below_drewN (Below.refl _ _) _⟩,rfl⟩ ?_
           repeat (go_big_quiet_step (first | (go_at_call 31;exact ZR HP2.out _) | (go_at_call 32;exact ZR HK2.out _)))
           refine wpQuiet_nil ?_
           rintro _ ⟨q,rfl⟩
           have hBq:=q.below
           go_wp2
           go_ret
           refine ⟨X7 ?_,hBw.trans (hBq.mono (by omega))⟩
           rw [HFIN.out,hko];simp
          ·have hK2:=HK.out
           simp only [hko] at hK2
           have HK2:=X1 hK2
           clear hK2
           go_wp2
           have hg50:¬ ((50:Int) < (h:Int)):=by omega
           refine XQ (KB.w (w:=w2)) (by kernel_rfl) (by kernel_rfl) ⟨⟨_,below_drewN (Below.refl _ _) _⟩,rfl⟩ ?_
           repeat (go_big_quiet_step (first | (go_at_call 31;exact ZR HP2.out _) | (go_at_call 32;exact ZR HK2.out _)))
           refine wpQuiet_nil ?_
           rintro _ ⟨q,rfl⟩
           have hBq:=q.below
           have hownq:=row_below hown2 hBq
           go_wp2
           go_roundw
           case rel =>
            refine ⟨i+1,hs++[h],g7,c7,by omega,by go_num,rfl,by simp;omega,?_,hB2.trans (hBq.mono hsz),?_,?_⟩
            ·rw [List.map_append];exact hownq
            ·intro x hx
             rcases List.mem_append.1 hx with hx | hx
             ·exact H50.out x hx
             ·have:x=h:=by simpa using hx
              omega
            ·rw [← HD.out,HFIN.out,hp,hko,decide_eq_false (by omega)];rfl
           case measure=>simp [intOf];omega
     ·go_wp2
      go_ret
      refine ⟨X7 ?_,HB1.out.trans (hB.mono (Nat.le_of_lt hbl))⟩
      rw [HD.out,HE.out,List.drop_of_length_le (by simp;omega)];rfl
  ·have HD:Hid (XR ns=false):=X1 (by simp at hk;simp [XR,HLK.out,hk])
   go_enter Tryz.func14,Tryz.ntmps14
   go_wp2_with (go_at_call 29;refine (Yx _ _ _ _).mono ?_;rintro e w' ⟨rfl,rfl⟩)
   go_ret
   exact ⟨X7 HD.out.symm,r1⟩
theorem DK.tokNext {b tg tc:Nat} {ts:List Sc.T} {sz:Nat} {v:Value} {s:Pr.Dk} {w:World} (h:DK b tg tc ts sz v s w) (hp:s.p+1 < ts.length):w.cell? ⟨tg,(s.p+1)*4,none⟩=some (.int .i64 (X2 ts sz (X5 s)).kind)∧w.cell? ⟨tg,(s.p+1)*4+1,none⟩=some (.string ⟨(X2 ts sz (X5 s)).text.toArray⟩):=by
 have e:X2 ts sz (X5 s)=ts[s.p+1]:=by unfold X2;rw [Pr.adv_p,List.getElem?_eq_getElem hp];rfl
 rw [e];exact ⟨(h.ks _ hp).1,(h.ks _ hp).2.1⟩
def NmPost (w:World) (r:Bool) (e:Ending) (w':World):Prop:=e = .returned (.bool r)∧Below w.heap.size w w'
set_option maxRecDepth 100000 in
set_option maxHeartbeats 2000000 in
theorem named_4 {b tg tc:Nat} {ts:List Sc.T} {sz:Nat} {v:Value} {s:Pr.Dk} {w:World} (h:DK b tg tc ts sz v s w) (hk:((X2 ts sz s).kind:Int)=1) (hp:s.p+1 < ts.length) (hk5:((X2 ts sz (X5 s)).kind:Int)=5) :
  Calls Tryz.prog 117 #[.pointer (some ⟨b,0,none⟩)] w (NmPost w ((X2 ts sz (X5 s)).text == [61])):=by
 haveI hne:Nonempty (KB w):=⟨⟨_,Below.refl _ _⟩⟩
 have hm:=h.most
 have hle:=h.le
 have hz01:(0:Int)≤(s.p:Int)+1:=by omega
 have hpi:(s.p:Int)+1 < ts.length:=by omega
 have HT:Hid (∀ w1,Below w.heap.size w w1→Calls Tryz.prog 84 #[.pointer (some ⟨b,0,none⟩)] w1 fun e w'=>e = .returned (.agg #[.int .i64 1,.string ⟨(X2 ts sz s).text.toArray⟩,.int .i64 (X2 ts sz s).n,.int .i64 (X2 ts sz s).place])∧Below w1.heap.size w1 w'):=X1 (fun w1 hb=>by
  have:=Z6 (h.below hb)
  unfold Y1 at this
  rw [hk] at this;exact this)
 have hf0:=Kf 1 (X2 ts sz s).n (X2 ts sz s).place ⟨(X2 ts sz s).text.toArray⟩
 have d0:∀ q:KB w,q.w.cell? ⟨b,0,none⟩=some (.slice (some ⟨tg,0,none⟩) ts.length tc):=fun q=>(h.below q.below).c0
 have d2:∀ q:KB w,q.w.cell? ⟨b,2,none⟩=some (.int .i64 s.p):=fun q=>(h.below q.below).c2
 have x0:∀ q:KB w,q.w.cell? ⟨tg,(s.p+1)*4,none⟩=some (.int .i64 5):=fun q=>by have:=((h.below q.below).tokNext (sz:=sz) hp).1;rw [hk5] at this;exact this
 have x1:∀ q:KB w,q.w.cell? ⟨tg,(s.p+1)*4+1,none⟩=some (.string ⟨(X2 ts sz (X5 s)).text.toArray⟩):=fun q=>((h.below q.below).tokNext (sz:=sz) hp).2
 clear h
 go_enter Tryz.func117,Tryz.ntmps117
 go_wp2_with fail
 refine XQ (KB.w (w:=w)) (by kernel_rfl) (by kernel_rfl) ⟨⟨_,below_drewN (Below.refl _ _) _⟩,rfl⟩ ?_
 repeat (go_big_quiet_step ((go_at_call 84;exact ZR HT.out _)))
 refine wpQuiet_nil ?_
 rintro _ ⟨q,rfl⟩
 have hBq:=q.below
 go_wp2
 go_ret
 refine ⟨?_,hBq⟩
 first | rfl | simp [Lib.toList_data]
set_option maxRecDepth 100000 in
set_option maxHeartbeats 2000000 in
theorem named_3 {b tg tc:Nat} {ts:List Sc.T} {sz:Nat} {v:Value} {s:Pr.Dk} {w:World} (h:DK b tg tc ts sz v s w) (hk:((X2 ts sz s).kind:Int)=1) (hp:s.p+1 < ts.length) (hk5:¬ ((X2 ts sz (X5 s)).kind:Int)=5) :
  Calls Tryz.prog 117 #[.pointer (some ⟨b,0,none⟩)] w (NmPost w false):=by
 haveI hne:Nonempty (KB w):=⟨⟨_,Below.refl _ _⟩⟩
 have hm:=h.most
 have hle:=h.le
 have hk5d:decide (((X2 ts sz (X5 s)).kind:Int)=5)=false:=by simpa using hk5
 have hk5b:(((X2 ts sz (X5 s)).kind:Int) == 5)=false:=by simpa using hk5
 have hz01:(0:Int)≤(s.p:Int)+1:=by omega
 have hpi:(s.p:Int)+1 < ts.length:=by omega
 have HT:Hid (∀ w1,Below w.heap.size w w1→Calls Tryz.prog 84 #[.pointer (some ⟨b,0,none⟩)] w1 fun e w'=>e = .returned (.agg #[.int .i64 1,.string ⟨(X2 ts sz s).text.toArray⟩,.int .i64 (X2 ts sz s).n,.int .i64 (X2 ts sz s).place])∧Below w1.heap.size w1 w'):=X1 (fun w1 hb=>by
  have:=Z6 (h.below hb)
  unfold Y1 at this
  rw [hk] at this;exact this)
 have hf0:=Kf 1 (X2 ts sz s).n (X2 ts sz s).place ⟨(X2 ts sz s).text.toArray⟩
 have d0:∀ q:KB w,q.w.cell? ⟨b,0,none⟩=some (.slice (some ⟨tg,0,none⟩) ts.length tc):=fun q=>(h.below q.below).c0
 have d2:∀ q:KB w,q.w.cell? ⟨b,2,none⟩=some (.int .i64 s.p):=fun q=>(h.below q.below).c2
 have x0:∀ q:KB w,q.w.cell? ⟨tg,(s.p+1)*4,none⟩=some (.int .i64 ((X2 ts sz (X5 s)).kind:Nat)):=fun q=>by have:=((h.below q.below).tokNext (sz:=sz) hp).1;exact this
 have x1:∀ q:KB w,q.w.cell? ⟨tg,(s.p+1)*4+1,none⟩=some (.string ⟨(X2 ts sz (X5 s)).text.toArray⟩):=fun q=>((h.below q.below).tokNext (sz:=sz) hp).2
 clear h
 go_enter Tryz.func117,Tryz.ntmps117
 go_wp2_with fail
 refine XQ (KB.w (w:=w)) (by kernel_rfl) (by kernel_rfl) ⟨⟨_,below_drewN (Below.refl _ _) _⟩,rfl⟩ ?_
 repeat (go_big_quiet_step ((go_at_call 84;exact ZR HT.out _)))
 refine wpQuiet_nil ?_
 rintro _ ⟨q,rfl⟩
 have hBq:=q.below
 go_wp2
 go_ret
 refine ⟨?_,hBq⟩
 first | rfl | simp [Lib.toList_data]
set_option maxRecDepth 100000 in
set_option maxHeartbeats 2000000 in
theorem named_2 {b tg tc:Nat} {ts:List Sc.T} {sz:Nat} {v:Value} {s:Pr.Dk} {w:World} (h:DK b tg tc ts sz v s w) (hk:((X2 ts sz s).kind:Int)=1) (hp:¬ s.p+1 < ts.length) :
  Calls Tryz.prog 117 #[.pointer (some ⟨b,0,none⟩)] w (NmPost w false):=by
 haveI hne:Nonempty (KB w):=⟨⟨_,Below.refl _ _⟩⟩
 have hm:=h.most
 have hle:=h.le
 have hpi:¬ (s.p:Int)+1 < ts.length:=by omega
 have hpd:decide ((s.p:Int)+1 < ts.length)=false:=by simpa using hpi
 have HT:Hid (∀ w1,Below w.heap.size w w1→Calls Tryz.prog 84 #[.pointer (some ⟨b,0,none⟩)] w1 fun e w'=>e = .returned (.agg #[.int .i64 1,.string ⟨(X2 ts sz s).text.toArray⟩,.int .i64 (X2 ts sz s).n,.int .i64 (X2 ts sz s).place])∧Below w1.heap.size w1 w'):=X1 (fun w1 hb=>by
  have:=Z6 (h.below hb)
  unfold Y1 at this
  rw [hk] at this;exact this)
 have hf0:=Kf 1 (X2 ts sz s).n (X2 ts sz s).place ⟨(X2 ts sz s).text.toArray⟩
 have d0:∀ q:KB w,q.w.cell? ⟨b,0,none⟩=some (.slice (some ⟨tg,0,none⟩) ts.length tc):=fun q=>(h.below q.below).c0
 have d2:∀ q:KB w,q.w.cell? ⟨b,2,none⟩=some (.int .i64 s.p):=fun q=>(h.below q.below).c2
 clear h
 go_enter Tryz.func117,Tryz.ntmps117
 go_wp2_with fail
 refine XQ (KB.w (w:=w)) (by kernel_rfl) (by kernel_rfl) ⟨⟨_,below_drewN (Below.refl _ _) _⟩,rfl⟩ ?_
 repeat (go_big_quiet_step ((go_at_call 84;exact ZR HT.out _)))
 refine wpQuiet_nil ?_
 rintro _ ⟨q,rfl⟩
 have hBq:=q.below
 go_wp2
 go_ret
 refine ⟨?_,hBq⟩
 first | rfl | simp [Lib.toList_data]
set_option maxRecDepth 100000 in
set_option maxHeartbeats 2000000 in
theorem named_1 {b tg tc:Nat} {ts:List Sc.T} {sz:Nat} {v:Value} {s:Pr.Dk} {w:World} (h:DK b tg tc ts sz v s w) (hk:¬ ((X2 ts sz s).kind:Int)=1) :
  Calls Tryz.prog 117 #[.pointer (some ⟨b,0,none⟩)] w (NmPost w false):=by
 haveI hne:Nonempty (KB w):=⟨⟨_,Below.refl _ _⟩⟩
 have hm:=h.most
 have hle:=h.le
 have hkd:decide (((X2 ts sz s).kind:Int)=1)=false:=by simpa using hk
 have hkb:(((X2 ts sz s).kind:Int) == 1)=false:=by simpa using hk
 have HT:Hid (∀ w1,Below w.heap.size w w1→Calls Tryz.prog 84 #[.pointer (some ⟨b,0,none⟩)] w1 fun e w'=>e = .returned (.agg #[.int .i64 ((X2 ts sz s).kind:Nat),.string ⟨(X2 ts sz s).text.toArray⟩,.int .i64 (X2 ts sz s).n,.int .i64 (X2 ts sz s).place])∧Below w1.heap.size w1 w'):=X1 (fun w1 hb=>by
  have:=Z6 (h.below hb)
  unfold Y1 at this
  exact this)
 have hf0:=Kf ((X2 ts sz s).kind:Nat) (X2 ts sz s).n (X2 ts sz s).place ⟨(X2 ts sz s).text.toArray⟩
 clear h
 go_enter Tryz.func117,Tryz.ntmps117
 go_wp2_with fail
 refine XQ (KB.w (w:=w)) (by kernel_rfl) (by kernel_rfl) ⟨⟨_,below_drewN (Below.refl _ _) _⟩,rfl⟩ ?_
 repeat (go_big_quiet_step ((go_at_call 84;exact ZR HT.out _)))
 refine wpQuiet_nil ?_
 rintro _ ⟨q,rfl⟩
 have hBq:=q.below
 go_wp2
 go_ret
 refine ⟨?_,hBq⟩
 first | rfl | simp [Lib.toList_data]
theorem named_any {b tg tc:Nat} {ts:List Sc.T} {sz:Nat} {v:Value} {s:Pr.Dk} {w:World} (h:DK b tg tc ts sz v s w) :
  Calls Tryz.prog 117 #[.pointer (some ⟨b,0,none⟩)] w (NmPost w (Y8 ts sz s)):=by
 by_cases k1:(X2 ts sz s).kind=1
 ·by_cases hp:s.p+1 < ts.length
  ·by_cases k5:(X2 ts sz (X5 s)).kind=5
   ·have e:Y8 ts sz s=((X2 ts sz (X5 s)).text == [61]):=by unfold Y8;simp [k1,hp,k5]
    rw [e];exact named_4 h (by omega) hp (by omega)
   ·have e:Y8 ts sz s=false:=by unfold Y8;simp [k5]
    rw [e];exact named_3 h (by omega) hp (by omega)
  ·have e:Y8 ts sz s=false:=by unfold Y8;simp [hp]
   rw [e];exact named_2 h (by omega) hp
 ·have e:Y8 ts sz s=false:=by unfold Y8;simp [k1]
  rw [e];exact named_1 h (by omega)
theorem Pr.SOi.cast {b tg tc:Nat} {ts:List Sc.T} {sz:Nat} {i j:Int} {r:Nat} {s:Pr.Dk} (h:Pr.SOi b tg tc ts sz i r s) (e:i=j):Pr.SOi b tg tc ts sz j r s:=e ▸ h
def KD (b tg tc:Nat) (ts:List Sc.T) (sz:Nat):Prop:=∀ s:Pr.Dk,(∀ q:Pr.Dk,s.p≤q.p→q.p≤ts.length→Pr.SE b tg tc ts sz q)→Pr.SL b tg tc ts sz s
def Pr.All (b tg tc:Nat) (ts:List Sc.T) (sz:Nat) (s:Pr.Dk):Prop:=Pr.SE b tg tc ts sz s∧∀ r:Nat,1≤r→r≤7→Pr.SOi b tg tc ts sz r r s
theorem Pr.all_at {b tg tc:Nat} {ts:List Sc.T} {sz:Nat} (hnm:KR b tg tc ts sz) (hls:KD b tg tc ts sz) (s:Pr.Dk) (ih:∀ q:Pr.Dk,s.p < q.p→q.p≤ts.length→Pr.All b tg tc ts sz q):Pr.All b tg tc ts sz s:=by
 have iE:∀ q:Pr.Dk,s.p < q.p→q.p≤ts.length→Pr.SE b tg tc ts sz q:=fun q h k=>(ih q h k).1
 have iP:∀ q:Pr.Dk,s.p < q.p→q.p≤ts.length→Pr.SP b tg tc ts sz q:=fun q h _=>params_says fun q' h' k'=>iE q' (Nat.lt_of_lt_of_le h h') k'
 have iA:∀ q:Pr.Dk,s.p < q.p→q.p≤ts.length→Pr.SA b tg tc ts sz q:=fun q h _=>args_says hnm fun q' h' k'=>iE q' (Nat.lt_of_lt_of_le h h') k'
 have iR:∀ q:Pr.Dk,s.p < q.p→q.p≤ts.length→Pr.SR b tg tc ts sz q:=fun q h _=>record_says fun q' h' k'=>iE q' (Nat.lt_of_lt_of_le h h') k'
 have iL:∀ q:Pr.Dk,s.p < q.p→q.p≤ts.length→Pr.SL b tg tc ts sz q:=fun q h _=>hls q fun q' h' k'=>iE q' (Nat.lt_of_lt_of_le h h') k'
 have sI:Pr.SI b tg tc ts sz s:=single_says iE iL iR
 have sT:Pr.ST b tg tc ts sz s:=post_says sI iE iA
 have o:∀ r:Nat,1≤r→r≤7→Pr.SOi b tg tc ts sz r r s:=by
  cases hb:s.bad
  ·have o7:Pr.SOi b tg tc ts sz 7 7 s:=ops_at7 hb (fun q h k=>(ih q h k).2 7 (by omega) (by omega)) sT
   have st:∀ r:Nat,1≤r→r≤6→r≠3→Pr.SOi b tg tc ts sz ((r+1:Nat):Int) (r+1) s→Pr.SOi b tg tc ts sz r r s:=fun r h1 h6 h3 h =>
    ops_at r h6 h3 hb (fun q hq k=>((ih q hq k).2 (r+1) (by omega) (by omega)).cast (by omega)) (h.cast (by omega))
   have o6:=st 6 (by omega) (by omega) (by omega) o7
   have o5:=st 5 (by omega) (by omega) (by omega) o6
   have o4:=st 4 (by omega) (by omega) (by omega) o5
   have o3:Pr.SOi b tg tc ts sz 3 3 s:=ops_at3 hb (fun q h k=>(ih q h k).2 3 (by omega) (by omega)) o4
   have o2:=st 2 (by omega) (by omega) (by omega) o3
   have o1:=st 1 (by omega) (by omega) (by omega) o2
   intro r h1 h7
   have hc:r=1∨r=2∨r=3∨r=4∨r=5∨r=6∨r=7:=by omega
   rcases hc with rfl | rfl | rfl | rfl | rfl | rfl | rfl
   ·exact o1
   ·exact o2
   ·exact o3
   ·exact o4
   ·exact o5
   ·exact o6
   ·exact o7
  ·exact fun r _ _=>ops_bad r hb
 exact ⟨e_says iE iP (o 1 (by omega) (by omega)),o⟩
theorem Pr.all_says {b tg tc:Nat} {ts:List Sc.T} {sz:Nat} (hnm:KR b tg tc ts sz) (hls:KD b tg tc ts sz):∀ (n:Nat) (s:Pr.Dk),s.p≤ts.length→ts.length - s.p≤n→Pr.All b tg tc ts sz s:=by
 intro n
 induction n with
 | zero=>intro s h hn;exact Pr.all_at hnm hls s fun q h1 h2=>by omega
 | succ n ih=>intro s h hn;exact Pr.all_at hnm hls s fun q h1 h2=>ih q h2 (by omega)
theorem Pr.statement_all {b tg tc:Nat} {ts:List Sc.T} {sz:Nat} (hnm:KR b tg tc ts sz) (hls:KD b tg tc ts sz) (s:Pr.Dk):Pr.SS b tg tc ts sz s :=
 statement_says (fun q _ h=>(Pr.all_says hnm hls _ q h (Nat.le_refl _)).1) (fun _ _ _=>params_says fun q' _ h'=>(Pr.all_says hnm hls _ q' h' (Nat.le_refl _)).1)
theorem Pr.named_yes (b tg tc:Nat) (ts:List Sc.T) (sz:Nat):KR b tg tc ts sz:=fun _ _ _ h=>named_any h
theorem Pr.list_yes (b tg tc:Nat) (ts:List Sc.T) (sz:Nat):KD b tg tc ts sz:=fun s ih=>by
 cases h:X9 ts sz s [93]
 ·exact list_says h ih
 ·exact list_nil h
theorem Pr.statement_any (b tg tc:Nat) (ts:List Sc.T) (sz:Nat) (s:Pr.Dk):Pr.SS b tg tc ts sz s:=Pr.statement_all (Pr.named_yes b tg tc ts sz) (Pr.list_yes b tg tc ts sz) s
namespace Sc
theorem takeWhile_cons_pos {p:UInt8→Bool} {b:UInt8} {r:List UInt8} (h:p b=true):((b :: r).takeWhile p).length=(r.takeWhile p).length+1:=by simp [h]
theorem takeWhile_cons_neg {p:UInt8→Bool} {b:UInt8} {r:List UInt8} (h:p b=false):((b :: r).takeWhile p).length=0:=by simp [h]
theorem numVal_snoc (l:List UInt8) (b:UInt8):numVal (l++[b])=numVal l*10+(b.toNat - 48):=by simp [numVal]
theorem take_snoc (s:ByteArray) (k j:Nat) (hkj:k≤j) (h:j < s.size):(s.data.toList.drop k).take (j+1 - k)=(s.data.toList.drop k).take (j - k)++[s[j]]:=by
 rw [show j+1 - k=(j - k)+1 from by omega,List.take_succ_eq_append_getElem (by simp;omega)]
 congr 2
 simp [show k+(j - k)=j from by omega]
 rfl
end Sc
set_option maxHeartbeats 400000 in
theorem hex_any (b:UInt8) (w:World):Calls Tryz.prog 100 #[.int .u8 b.toNat] w fun e w'=>e = .returned (.int .i64 (Sc.hexv b))∧w'=w:=by
 by_cases h1:48≤(b.toNat:Int)
 all_goals by_cases h2:(b.toNat:Int)≤57
 all_goals by_cases h3:97≤(b.toNat:Int)
 all_goals by_cases h4:(b.toNat:Int)≤102
 all_goals first | (exfalso;omega) | skip
 all_goals
  go_enter Tryz.func100,Tryz.ntmps100
  go_wp2
  go_ret
  exact ⟨Qx (by unfold Sc.hexv;first | rw [if_pos (by omega)] | rw [if_neg (by omega),if_pos (by omega)] | rw [if_neg (by omega),if_neg (by omega)]),rfl⟩
set_option maxHeartbeats 1000000 in
theorem gap_any (s:ByteArray) (k:Nat) (a:Int) (w:World) (hs:s.size≤1048576) (hk:k≤s.size) (ha:a=(k:Int)) :
  Calls Tryz.prog 77 #[.string s,.int .i64 a] w fun e w'=>e = .returned (.int .i64 ((k+Sc.gapLen false (s.data.toList.drop k):Nat):Int))∧w'=w:=by
 subst ha
 go_enter Tryz.func77,Tryz.ntmps77
 go_wp2
 go_loop [1] (fun t=>∃ j:Nat,j≤s.size∧t = .int .i64 j∧j+Sc.gapLen false (s.data.toList.drop j)=k+Sc.gapLen false (s.data.toList.drop k)) (fun t=>s.size - (intOf t).toNat)
 case atStart=>exact ⟨k,hk,rfl,rfl⟩
 case round =>
  obtain ⟨j,hj,rfl,he⟩:=hrel
  have HE:=X1 he
  clear he
  by_cases hlt:j < s.size
  ·have hd:=X1 (Sc.drop_cons s j hlt)
   cases h35:((s[j].toNat:Int) == 35)
   ·cases h32:((s[j].toNat:Int) == 32)
    ·cases h10:((s[j].toNat:Int) == 10)
     ·go_wp2
      go_ret
      refine ⟨Qx ?_,rfl⟩
      have e:=HE.out
      rw [hd.out] at e
      simp at h35 h32 h10
      simp only [Sc.gapLen] at e
      rw [if_neg (by omega),if_neg (by omega)] at e
      omega
     ·go_wp2
      go_round
      case rel =>
       refine ⟨j+1,by omega,by go_num,?_⟩
       have e:=HE.out
       rw [hd.out] at e
       simp at h35 h32 h10
       simp only [Sc.gapLen] at e
       rw [if_neg (by omega),if_pos (by omega)] at e
       omega
      case measure=>simp [intOf];omega
    ·go_wp2
     go_round
     case rel =>
      refine ⟨j+1,by omega,by go_num,?_⟩
      have e:=HE.out
      rw [hd.out] at e
      simp at h35 h32
      simp only [Sc.gapLen] at e
      rw [if_neg (by omega),if_pos (by omega)] at e
      omega
     case measure=>simp [intOf];omega
   ·go_wp2
    go_loop [1] (fun t=>∃ i:Nat,j≤i∧i≤s.size∧t = .int .i64 i∧i+Sc.gapLen true (s.data.toList.drop i)=k+Sc.gapLen false (s.data.toList.drop k)) (fun t=>s.size - (intOf t).toNat)
    case atStart =>
     refine ⟨j,Nat.le_refl _,hj,rfl,?_⟩
     have e:=HE.out
     rw [hd.out] at e ⊢
     simp at h35
     simp only [Sc.gapLen] at e ⊢
     rw [if_pos (by omega)] at e
     rw [if_neg (by omega)]
     omega
    case round =>
     obtain ⟨i,hji,hi,rfl,hei⟩:=hrel
     have HI:=X1 hei
     clear hei
     by_cases hil:i < s.size
     ·have hdi:=X1 (Sc.drop_cons s i hil)
      cases h10:((s[i].toNat:Int) == 10)
      ·go_wp2
       go_round
       case rel =>
        refine ⟨i+1,by omega,by omega,by go_num,?_⟩
        have e:=HI.out
        rw [hdi.out] at e
        simp at h10
        simp only [Sc.gapLen] at e
        rw [if_neg (by omega)] at e
        omega
       case measure=>simp [intOf];omega
      ·have hne:i≠j:=by rintro rfl;simp at h35 h10;omega
       go_wp2
       go_round
       case rel =>
        refine ⟨i,by omega,rfl,?_⟩
        have e:=HI.out
        rw [hdi.out] at e ⊢
        simp at h10
        simp only [Sc.gapLen] at e ⊢
        rw [if_pos (by omega)] at e
        rw [if_neg (by omega),if_pos (by omega)]
        omega
       case measure=>simp [intOf];omega
     ·go_wp2
      go_round
      case rel =>
       refine ⟨i,by omega,rfl,?_⟩
       have e:=HI.out
       rw [List.drop_of_length_le (i:=i) (by simp;omega)] at e ⊢
       simp only [Sc.gapLen] at e ⊢
       omega
      case measure=>simp [intOf];omega
  ·go_wp2
   go_ret
   refine ⟨Qx ?_,rfl⟩
   have e:=HE.out
   rw [List.drop_of_length_le (i:=j) (by simp;omega)] at e
   simp only [Sc.gapLen] at e
   omega
set_option maxHeartbeats 400000 in
theorem marks_any (w:World):Calls Tryz.prog 91 #[] w fun e w'=>e = .returned (.slice (some ⟨w.heap.size,0,none⟩) 23 23)∧Below w.heap.size w w'∧w.heap.size < w'.heap.size∧Lies w' w.heap.size Sc.marks:=by
 go_enter Tryz.func91,Tryz.ntmps91
 go_wp2
 go_ret
 refine ⟨rfl,bA _,by simp,?_⟩
 exact lies_lit w 9 Sc.marks
end Go.Proofs.YthbfdaifgnhkbaaGreatDoor
