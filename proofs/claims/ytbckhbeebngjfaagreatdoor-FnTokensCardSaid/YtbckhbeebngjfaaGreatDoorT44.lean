/- Ge. -/
import Derived.Test.YtbckhbeebngjfaaGreatDoorT43
import Derived.BigQuiet
import Derived.Deep.CutRange
namespace Go.Proofs.YtbckhbeebngjfaaGreatDoor
open Go.RowKit
theorem DS.start [Inhabited Bs] {gb rb:Nat} {vb:Value} {n q k M:Nat} {w w1:World} (s:Short) (z:Int) (h:Gn gb rb vb n q k w1) (ht:Ty w w1) (hg:tyAt w gb=some 103) (hgl:gb < w.heap.size) (hr:rb < w.heap.size) (hf:Fm gb M w) (hM:M≤500):∃ vf m ys,m≤M∧DS gb rb vb n w w1.heap.size s z vf m ys q k 0 (.slice none 0 0) [] (.slice (some ⟨w1.heap.size+1,0,none⟩) 0 0) [] ((w1.alloc (.cells #[.string s,.slice none 0 0,.int .i64 0,.int .i64 z] 127)).alloc (.cells #[] 48)):=by
 obtain ⟨p,m0,c,hm,hc⟩:=hf.ty hg hgl ht
 obtain ⟨vf,m,ys,f1,f2,f3,f4⟩:=h.fn
 obtain rfl:vf = .slice p m0 c:=by rw [f1] at hc;exact Option.some.inj hc
 obtain ⟨_,_,hf'⟩:=row_formP f2
 obtain rfl:m0=m:=by injection hf'
 have b1:Below w1.heap.size w1 (w1.alloc (.cells #[.string s,.slice none 0 0,.int .i64 0,.int .i64 z] 127)):=bA _
 have b2:Below (w1.alloc (.cells #[.string s,.slice none 0 0,.int .i64 0,.int .i64 z] 127)).heap.size (w1.alloc (.cells #[.string s,.slice none 0 0,.int .i64 0,.int .i64 z] 127)) ((w1.alloc (.cells #[.string s,.slice none 0 0,.int .i64 0,.int .i64 z] 127)).alloc (.cells #[] 48)):=bA _
 have fk:FnK gb rb w1.heap.size (.slice p m0 c) m0 ys w1:=⟨f1,f2,fun b hb=>(f2.lt b hb).2,fun i hi=>by
  obtain ⟨s',pv,ps,f,z',a1,a2,a3,a4,a5,a6,a7,a8⟩:=f4 i hi
  exact ⟨s',pv,ps,f,z',a1,a2,a3,a4,a5,a6,a7,a8,fun b hb=>(a5.lt b hb).2⟩⟩
 have hpw:=PW.new (B:=w.heap.size) (w1.alloc (.cells #[.string s,.slice none 0 0,.int .i64 0,.int .i64 z] 127)) (Nat.le_trans ht.size b1.size)
 rw [World.size_alloc] at hpw
 have hgl1:=h.lt
 refine ⟨_,m0,ys,hm,(h.below b1).below b2,(Ty.tf ht).trans ((TyM.of b1).trans (.of b2)),hpw,(b2.block _ (by simp)).trans (heap_alloc_new' _ _),World.ownsRow_nil _ _ _ _,fk.keep ?_ ?_,by omega,hr,ht.size⟩
 ·exact (b2.cell (p:=⟨gb,2,none⟩) (by simp;omega)).trans (b1.cell (p:=⟨gb,2,none⟩) hgl1)
 ·intro b hb _ _
  exact (b2.block b (by simp;omega)).trans (b1.block b hb)
variable (gb rb:Nat) (vb:Value) (n:Nat)
set_option maxRecDepth 100000 in
set_option maxHeartbeats 16000000 in
theorem def_any [Inhabited Bs] (HE1:EAt gb rb vb n 1 260) (HE3:EAt gb rb vb n 3 6860):DefAt gb rb vb n:=fun q k M s w h hf hM hq hk=>by
 obtain ⟨iP,hP,hPz,hPs,hPb⟩:=info_parts Tryz.infoNdsC
 obtain ⟨iN,hNi,hNz,hNs,hNb⟩:=info_parts Tryz.infoSeen
 obtain ⟨iF,hFi,hFz,hFs,hFb⟩:=info_parts Tryz.infoFnC
 obtain ⟨iI,hIi,hIz,hIs,hIb⟩:=info_parts Tryz.infoIntC
 have hrw:rb < w.heap.size:=Nat.lt_trans h.up h.lt
 have c0:=h.c0
 have HG0:=hide h
 have HF0:=hide hf
 have HE1:=hide HE1
 have HE3:=hide HE3
 clear h hf
 go_enter Tryz.func82,Tryz.ntmps82
 go_wp2_with fail
 refine (Gn.pick HG0.out (by omega) 5 (by omega) (by omega)).mono ?_
 rintro e w1 ⟨z1,hz1,rfl,hg1,ht1⟩
 obtain ⟨vf,m,ys,hmM,hd1⟩:=DS.start s (z1:Int) hg1 ht1 HG0.out.ty HG0.out.lt hrw HF0.out hM
 have HT1:=hide ht1
 have HD1:=hide hd1
 have c1:=hd1.gn.c0
 obtain ⟨nv,nx,n1,n2,n3⟩:=hd1.gn.nm
 obtain ⟨np,nc,hnv⟩:=row_formP n2
 subst hnv
 clear hd1 hg1 ht1 n2 n3 c0 HG0 HF0
 go_wp2_with fail
 refine (Gn.pick HD1.out.gn (by omega) 4 (by omega) (by omega)).mono ?_
 rintro e w2 ⟨z2,hz2,rfl,hg2,ht2⟩
 have HD2:=hide (HD1.out.ty ht2 hg2)
 clear hg2 ht2 HD1 c1 n1
 generalize hfb:w1.heap.size=fb at *
 go_wp2_with fail
 go_loopw [8,10,11,12] (fun sv tv _ _ wr=>∃ (i:Nat) (free:Int) (pvv:Value) (ps:List Int) (ls:List (List Tr.Nd)),i≤3∧tv = .int .i64 (i:Int)∧ps.length+i≤3∧ls.length=ps.length∧0≤free∧free≤(ps.length:Int)∧ls.flatten.length≤ps.length*261∧DS gb rb vb n w fb s z1 vf m ys (q+2+ps.length*262) (k+ps.length) free pvv ps sv ls wr) (fun _ tv _ _ _=>(intOf tv).toNat)
 case atStart=>exact ⟨z2,0,_,[],[],by omega,rfl,by simp;omega,rfl,by omega,by simp,by simp,HD2.out⟩
 case round =>
  obtain ⟨i,free,pvv,ps,ls,hi3,rfl,hpi,hlp,hfr0,hfrp,hfl,hDS⟩:=hrel
  have HDr:=hide hDS
  have HLP:=hide hlp
  have hle:ls.length≤3:=by omega
  clear hlp
  obtain ⟨vs0,pv0,_⟩:=hDS.pw
  obtain ⟨pp0,pc0,hp0⟩:=row_formP pv0
  subst hp0
  obtain ⟨pq0,pr0,hq0⟩:=row_formP hDS.prow
  subst hq0
  clear pv0 hDS
  match i,hi3,hpi with
  | 0,hi3,hpi =>
   have HTr:=hide (HDr.out.dt (M:=M) hmM (by omega) hfr0 (by omega))
   have c0:=HTr.out.gn.c0
   have hps3:ps.length≤3:=by omega
   have hfl3:ls.flatten.length≤783:=by omega
   have HFL:=hide hfl3
   clear HDr hpi hi3 hfl hfl3
   go_upto_region 15 with fail
   go_cut [99] from 94 to 163 (fun v99 wx=>∃ b,v99 = .bool b∧DT gb rb vb n w fb s z1 (M) (q+800) (k+ps.length) free (.slice pq0 ps.length pr0) ps (.slice pp0 ls.length pc0) ls wx)
   case first =>
    go_wp2_with fail
    refine (Gn.pick HTr.out.gn (by omega) 12 (by omega) (by omega)).mono ?_
    rintro e w8 ⟨z8,hz8,rfl,hg8,ht8⟩
    have HT8:=hide (HTr.out.ty ht8 (hg8.mono (q':=q+800) (by omega)))
    clear hg8 ht8
    go_wp2_with fail
    go_meet
    case rel=>exact ⟨_,rfl,HT8.out⟩
   case rest =>
    obtain ⟨b,rfl,hTc⟩:=hcut
    have HTc:=hide hTc
    clear hTc HTr c0
    rename ∀ (a:Act) (w:World),_→_=>hKK
    refine hKK _ _ ?_
    go_cut [] from 94 to 163 (fun wx=>DT gb rb vb n w fb s z1 (M+1) (q+800) (k+ps.length) free (.slice pq0 ps.length pr0) ps (.slice pp0 ls.length pc0) ls wx)
    case first =>
     cases b
     ·go_wp2_with fail
      go_meet
      case rel=>exact HTc.out.mono (by omega)
     ·obtain ⟨vfn,mf,yf,f1,f2,f3,f4⟩:=HTc.out.gn.fn
      obtain ⟨fp,fc,hvf⟩:=row_formP f2
      subst hvf
      obtain ⟨b0,b1,b2,b3⟩:=HTc.out.cells
      have BD:Below wc.heap.size wc wc.drew:=(Below.refl _ _).drew
      have BL:Below wc.heap.size wc (wc.alloc (.cells #[.string s,.slice pq0 ps.length pr0,.int .i64 free,.int .i64 (z1:Int)] 127)).drew:=(bA _).drew
      have hgl:=HTc.out.gn.lt
      have hfl':=HTc.out.flt
      have HTa:=hide (HTc.out.below BL)
      have f1d:wc.drew.cell? ⟨gb,2,none⟩=_:=(BD.cell (p:=⟨gb,2,none⟩) hgl).trans f1
      have f1a:(wc.alloc (.cells #[.string s,.slice pq0 ps.length pr0,.int .i64 free,.int .i64 (z1:Int)] 127)).drew.cell? ⟨gb,2,none⟩=_:=(BL.cell (p:=⟨gb,2,none⟩) hgl).trans f1
      have b0d:wc.drew.cell? ⟨fb,0,none⟩=_:=(BD.cell (p:=⟨fb,0,none⟩) hfl').trans b0
      have b1d:wc.drew.cell? ⟨fb,1,none⟩=_:=(BD.cell (p:=⟨fb,1,none⟩) hfl').trans b1
      have b2d:wc.drew.cell? ⟨fb,2,none⟩=_:=(BD.cell (p:=⟨fb,2,none⟩) hfl').trans b2
      have b3d:wc.drew.cell? ⟨fb,3,none⟩=_:=(BD.cell (p:=⟨fb,3,none⟩) hfl').trans b3
      have HRa:=hide (row_belowP f2 BL)
      have HFa:Hid (FnC (wc.alloc (.cells #[.string s,.slice pq0 ps.length pr0,.int .i64 free,.int .i64 (z1:Int)] 127)).drew yf mf):=hide (f4.keep (fun q hq _=>BL.block q hq))
      have HCL:Hid (∀ (j:Nat) (u:Value),([.string s,.slice pq0 ps.length pr0,.int .i64 free,.int .i64 (z1:Int)]:List Value)[j]?=some u→(wc.alloc (.cells #[.string s,.slice pq0 ps.length pr0,.int .i64 free,.int .i64 (z1:Int)] 127)).drew.cell? ((⟨wc.heap.size,0,none⟩:Addr).add j)=some u):=hide (cells_litC wc [.string s,.slice pq0 ps.length pr0,.int .i64 free,.int .i64 (z1:Int)] _ _ rfl)
      have hrl:rb+1≤(wc.alloc (.cells #[.string s,.slice pq0 ps.length pr0,.int .i64 free,.int .i64 (z1:Int)] 127)).drew.heap.size:=by have:=HTc.out.tf.size;have:=BL.size;omega
      clear f1 f2 f4 b0 b1 b2 b3 BD BL
      go_wp2_with fail
      go_region_law (first
       | (refine step_append_ownP rfl (.tmp 104) (.tmp 106) 101 rfl (rb+1) 127 iF _ 4 56 Tryz.underlying101 hFi hFz hFs hFb rfl (by decide) (.slice fp mf fc) mf yf (by first | (simp [Act.eval];done) | simp [Act.eval,Act.put]) HRa.out ⟨wc.heap.size,0,none⟩ 1 1 [.string s,.slice pq0 ps.length pr0,.int .i64 free,.int .i64 (z1:Int)] (by first | (simp [Act.eval];done) | simp [Act.eval,Act.put]) rfl HCL.out (by simp [Value.oneCell']) (by unfold maxLen;omega) (by omega) hrl ?_;intro v5 w5 r1 r2 r3 r4;obtain ⟨eg,hT5⟩:=HTa.out.push (by omega) f1a HRa.out HFa.out r2 r1 r4;obtain ⟨sp5,sc5,hv5⟩:=row_formP r1;subst hv5;have q5:=(World.cell?_of_block (a:=⟨gb,2,none⟩) eg).trans f1a;have q6:=(World.frozen?_of_block (a:=⟨gb,2,none⟩) eg).trans (HTa.out.gn.fr 2);have HT5:=hide hT5;clear r1 r2 r3 r4 eg hT5))
      all_goals
       go_wp2_with fail
       go_meet
       case rel=>exact HT5.out
    case rest =>
     have HTd:=hide hcut
     obtain ⟨b0,b1,b2,b3⟩:=hcut.cells
     clear hcut HTc
     go_upto_region 17 with fail
     go_cut [8] from 94 to 163 (fun v8 wx=>∃ (g:Option Addr) (c:Nat) (l:List Tr.Nd),v8 = .slice g (ls.length+1) c∧0 < l.length∧l.length≤6860∧DT gb rb vb n w fb s z1 (M+1) (q+800+6860) (k+ps.length) free (.slice pq0 ps.length pr0) ps (.slice g (ls.length+1) c) (ls++[l]) wx)
     case first =>
      go_wp2_with fail
      refine (HE3.out _ _ _ _ HTd.out.gn (by omega) (by omega)).mono ?_
      rintro e w9 ⟨v9,l9,rfl,nr9,p9,m9,hg9,ht9⟩
      obtain ⟨gq9,cq9,hv9⟩:=nr9.form p9
      subst hv9
      have HT9:=hide (HTd.out.ty ht9 hg9)
      have HN9:=hide nr9
      obtain ⟨vs9,pv9,pw9⟩:=HT9.out.pw
      have HV9:=hide pv9
      have HW9:=hide pw9
      have hz9:=HT9.out.tf.size
      clear nr9 hg9 ht9 pv9 pw9
      go_wp2_with (at_builtin;refine wpList_append_own_at _ rfl _ _ 94 rfl w.heap.size 48 iP _ 1 24 Tryz.underlying94 hP hPz hPs hPb rfl (by decide) _ ls.length vs9 rfl (HV9.out.alloc _) ⟨w9.heap.size,0,none⟩ 1 1 [.slice (some ⟨gq9,0,none⟩) l9.length cq9] rfl rfl (cells_litC _ [_] _ _ rfl) (by simp [Value.oneCell']) (by unfold maxLen;omega) (by omega) (by simp;omega) ?_)
      intro v10 w10 ra rb_ rc rd
      obtain ⟨hp10,hpf10⟩:=pushed HV9.out HW9.out HN9.out p9 ra rb_
      obtain ⟨sp10,sc10,hs10⟩:=row_formP ra
      subst hs10
      have HT10:=hide (HT9.out.pf hpf10 hp10)
      clear hp10 hpf10 ra rb_ rc rd
      go_wp2_with fail
      go_meet
      case rel=>exact ⟨_,_,_,rfl,p9,m9,HT10.out⟩
     case rest =>
      obtain ⟨g8,c8,l8,rfl,hl80,hl81,hT10⟩:=hcut
      have HT10:=hide hT10
      clear HTd b0 b1 b2 b3
      go_upto_region 18 with fail
      go_cut [] from 94 to 163 (fun wx=>DT gb rb vb n w fb s z1 (M+1) (q+800+6860) (k) free (.slice pq0 ps.length pr0) ps (.slice g8 (ls.length+1) c8) (ls++[l8]) wx)
      case first =>
       obtain ⟨nv,nx,n1,n2,n3⟩:=hT10.gn.nm
       have fr1:=hT10.gn.fr 1
       rcases n2.2 with ⟨hnil,h0⟩ | ⟨g,c,cur,hv,_⟩
       ·obtain ⟨rfl,hps0⟩:k=0∧ps.length=0:=by omega
        subst hnil
        have HT11:=hide (hT10.ty (.set (o:=1) (v:= .slice none 0 0) hT10.gn.mine (by decide)) (hT10.gn.names (k':=0) (World.ownsRow_nil _ _ _ _) (fun i hi=>absurd hi (Nat.not_lt_zero _)) (by omega)))
        clear n2 n3 hT10
        go_wp2_with fail
        go_meet
        case rel=>exact HT11.out
       ·subst hv
        have hcap:=row_cap n2
        have hkc:k≤c:=by omega
        have hcm:c≤9223372036854775807:=by have:=hcap.2;unfold maxLen at this;omega
        have HT11:=hide (hT10.ty (.set (o:=1) (v:= .slice (some ⟨g,0,none⟩) k c) hT10.gn.mine (by decide)) (hT10.gn.names (row_prefix n2 (m:=k) (by omega)) (n3.take (by omega)) (by omega)))
        clear n2 n3 hT10 hcap
        go_wp2_with fail
        go_meet
        case rel=>exact HT11.out
      case rest =>
       have HTe:=hide hcut
       clear hT10 HT10
       go_upto_region 19 with fail
       go_cut [149] from 94 to 163 (fun v wx=>∃ b,v = .bool b∧DT gb rb vb n w fb s z1 (M+1) (q+800+6860) (k) free (.slice pq0 ps.length pr0) ps (.slice g8 (ls.length+1) c8) (ls++[l8]) wx)
       case first =>
        obtain ⟨vfn,mf,yf,f1,f2,f3,f4⟩:=hcut.gn.fn
        have HB9:=hide (fun N=>HTe.out.below (below_drewN (Below.refl _ _) N))
        rcases f2.2 with ⟨hnil,h0⟩ | ⟨fg,fc,cur,hv,_⟩
        ·subst hnil
         clear f2 f4 hcut
         go_quiet (fail)
         go_wp2_with fail
         go_meet
         case rel=>exact ⟨_,rfl,HB9.out _⟩
        ·subst hv
         by_cases hm0:mf=0
         ·subst hm0
          clear f2 f4 hcut
          go_quiet (fail)
          go_wp2_with fail
          go_meet
          case rel=>exact ⟨_,rfl,HB9.out _⟩
         ·obtain ⟨m1,rfl⟩:∃ m1,mf=m1+1:=⟨mf - 1,by omega⟩
          obtain ⟨s1,pv1,ps1,ff1,zz1,y1,_⟩:=f4 m1 (by omega)
          have cy:=World.ownsRow.cells f2 rfl _ _ y1
          rw [add_plainP,Nat.zero_add] at cy
          have em:((m1+1:Nat):Int)=(m1:Int)+1:=by omega
          have hwm:IntKind.i64.wrap (m1:Int)=(m1:Int):=by rw [IntKind.wrap_i64];omega
          have hne0:((m1:Int)+1 == 0)=false:=by simp;omega
          have hlt1:(m1:Int) < (m1:Int)+1:=by omega
          clear f2 f4 hcut y1
          cases heq:(s1.val.toList == s.val.toList)
          ·go_quiet (fail)
           go_wp2_with fail
           go_meet
           case rel=>exact ⟨_,rfl,HB9.out _⟩
          ·go_quiet (fail)
           go_wp2_with fail
           go_meet
           case rel=>exact ⟨_,rfl,HB9.out _⟩
       case rest =>
        obtain ⟨b,rfl,hTf⟩:=hcut
        have HTc:=hide hTf
        clear hTf HTe
        rename ∀ (a:Act) (w:World),_→_=>hKK
        refine hKK _ _ ?_
        go_cut [] from 94 to 163 (fun wx=>DT gb rb vb n w fb s z1 (M+1+1) (q+800+6860) (k) free (.slice pq0 ps.length pr0) ps (.slice g8 (ls.length+1) c8) (ls++[l8]) wx)
        case first =>
         cases b
         ·go_wp2_with fail
          go_meet
          case rel=>exact HTc.out.mono (by omega)
         ·obtain ⟨vfn,mf,yf,f1,f2,f3,f4⟩:=HTc.out.gn.fn
          obtain ⟨fp,fc,hvf⟩:=row_formP f2
          subst hvf
          obtain ⟨b0,b1,b2,b3⟩:=HTc.out.cells
          have BD:Below wc.heap.size wc wc.drew:=(Below.refl _ _).drew
          have BL:Below wc.heap.size wc (wc.alloc (.cells #[.string s,.slice pq0 ps.length pr0,.int .i64 free,.int .i64 (z1:Int)] 127)).drew:=(bA _).drew
          have hgl:=HTc.out.gn.lt
          have hfl':=HTc.out.flt
          have HTa:=hide (HTc.out.below BL)
          have f1d:wc.drew.cell? ⟨gb,2,none⟩=_:=(BD.cell (p:=⟨gb,2,none⟩) hgl).trans f1
          have f1a:(wc.alloc (.cells #[.string s,.slice pq0 ps.length pr0,.int .i64 free,.int .i64 (z1:Int)] 127)).drew.cell? ⟨gb,2,none⟩=_:=(BL.cell (p:=⟨gb,2,none⟩) hgl).trans f1
          have b0d:wc.drew.cell? ⟨fb,0,none⟩=_:=(BD.cell (p:=⟨fb,0,none⟩) hfl').trans b0
          have b1d:wc.drew.cell? ⟨fb,1,none⟩=_:=(BD.cell (p:=⟨fb,1,none⟩) hfl').trans b1
          have b2d:wc.drew.cell? ⟨fb,2,none⟩=_:=(BD.cell (p:=⟨fb,2,none⟩) hfl').trans b2
          have b3d:wc.drew.cell? ⟨fb,3,none⟩=_:=(BD.cell (p:=⟨fb,3,none⟩) hfl').trans b3
          have HRa:=hide (row_belowP f2 BL)
          have HFa:Hid (FnC (wc.alloc (.cells #[.string s,.slice pq0 ps.length pr0,.int .i64 free,.int .i64 (z1:Int)] 127)).drew yf mf):=hide (f4.keep (fun q hq _=>BL.block q hq))
          have HCL:Hid (∀ (j:Nat) (u:Value),([.string s,.slice pq0 ps.length pr0,.int .i64 free,.int .i64 (z1:Int)]:List Value)[j]?=some u→(wc.alloc (.cells #[.string s,.slice pq0 ps.length pr0,.int .i64 free,.int .i64 (z1:Int)] 127)).drew.cell? ((⟨wc.heap.size,0,none⟩:Addr).add j)=some u):=hide (cells_litC wc [.string s,.slice pq0 ps.length pr0,.int .i64 free,.int .i64 (z1:Int)] _ _ rfl)
          have hrl:rb+1≤(wc.alloc (.cells #[.string s,.slice pq0 ps.length pr0,.int .i64 free,.int .i64 (z1:Int)] 127)).drew.heap.size:=by have:=HTc.out.tf.size;have:=BL.size;omega
          clear f1 f2 f4 b0 b1 b2 b3 BD BL
          go_wp2_with fail
          go_region_law (first
           | (refine step_append_ownP rfl (.tmp 154) (.tmp 156) 101 rfl (rb+1) 127 iF _ 4 56 Tryz.underlying101 hFi hFz hFs hFb rfl (by decide) (.slice fp mf fc) mf yf (by first | (simp [Act.eval];done) | simp [Act.eval,Act.put]) HRa.out ⟨wc.heap.size,0,none⟩ 1 1 [.string s,.slice pq0 ps.length pr0,.int .i64 free,.int .i64 (z1:Int)] (by first | (simp [Act.eval];done) | simp [Act.eval,Act.put]) rfl HCL.out (by simp [Value.oneCell']) (by unfold maxLen;omega) (by omega) hrl ?_;intro v5 w5 r1 r2 r3 r4;obtain ⟨eg,hT5⟩:=HTa.out.push (by omega) f1a HRa.out HFa.out r2 r1 r4;obtain ⟨sp5,sc5,hv5⟩:=row_formP r1;subst hv5;have q5:=(World.cell?_of_block (a:=⟨gb,2,none⟩) eg).trans f1a;have q6:=(World.frozen?_of_block (a:=⟨gb,2,none⟩) eg).trans (HTa.out.gn.fr 2);have HT5:=hide hT5;clear r1 r2 r3 r4 eg hT5))
          all_goals
           go_wp2_with fail
           go_meet
           case rel=>exact HT5.out
        case rest =>
         have HTg:=hide hcut
         have HO:=hide (over_mk ⟨20,0,0,s.val,0⟩ (ls++[l8]) _ _ 7700 hcut.pw.pr (by have:=HFL.out;rw [List.flatten_append,List.length_append,fl1];omega) (by omega) (by rw [List.length_append];simp only [List.length_cons,List.length_nil];omega))
         unfold ndV at HO
         clear hcut HTc
         go_wp2_with fail
         refine HO.out.mono ?_
         rintro e w12 ⟨v12,l12,rfl,nr12,p12,m12,b12⟩
         obtain ⟨g12,c12,hv12⟩:=nr12.form p12
         subst hv12
         have HT12:=hide (HTg.out.below b12)
         have HN12:=hide nr12
         clear b12 nr12
         go_wp2
         go_ret
         obtain ⟨fp,fm,fc,hfm,hfc,_⟩:=HT12.out.ne
         exact ⟨_,_,rfl,HN12.out,p12,by omega,HT12.out.gn.mono (by omega),HT12.out.tf,fp,fm,fc,by omega,hfc⟩
  | i+1,hi3,hpi =>
   have hpsl:ps.length≤2:=by omega
   have ei:((i+1:Nat):Int)=(i:Int)+1:=by omega
   rw [ei]
   have hwi:IntKind.i64.wrap (i:Int)=(i:Int):=by rw [IntKind.wrap_i64];omega
   have hpos:(0:Int) < (i:Int)+1:=by omega
   have c0:=HDr.out.gn.c0
   go_wp2_with fail
   refine (Gn.pick HDr.out.gn (by omega) 5 (by omega) (by omega)).mono ?_
   rintro e w4 ⟨z4,hz4,rfl,hg4,ht4⟩
   have HD4:=hide (HDr.out.ty ht4 hg4)
   have b41:=HD4.out.cells.2.1
   have HDC:=hide (fun w0=>decC_any ps.length w0 (by omega))
   have hdl:=Tr.decC_len ps.length
   generalize Tr.decC ps.length=dc at *
   have hsz2:(⟨dc.toArray⟩:ByteArray).size≤1000:=by show dc.toArray.size≤_;simp;omega
   clear hg4 ht4 c0 HDr
   go_wp2_with fail
   refine (HDC.out _).mono ?_
   rintro e w5 ⟨rfl,b5⟩
   have HD5:=hide (HD4.out.below b5)
   have hst9:((⟨#[112]⟩:ByteArray)++⟨dc.toArray⟩).size≤1000000:=by rw [ByteArray.size_append];show 1+_≤_;omega
   clear b5 b41 HD4 HDC
   generalize hst:(⟨#[112]⟩:ByteArray)++⟨dc.toArray⟩=st at *
   go_upto_region 9 with fail
   obtain ⟨w6,hw6⟩:∃ w6,w5.alloc (.cells #[.int .i64 19,.int .i64 0,.int .i64 0,.string st,.int .i64 0] 82)=w6:=⟨_,rfl⟩
   have HD6:=hide (HD5.out.below (bA (.cells #[.int .i64 19,.int .i64 0,.int .i64 0,.string st,.int .i64 0] 82)))
   have HN6:=hide (nr_new w5 ⟨19,0,0,st,0⟩ hst9)
   rw [hw6]
   rw [hw6] at HD6
   have HN6:Hid (NR w6 (.slice (some ⟨w5.heap.size,0,none⟩) 1 1) [⟨19,0,0,st,0⟩]):=hide (by rw [← hw6];exact HN6.out)
   generalize w5.heap.size=pb at *
   clear hw6 HD5
   have c06:=HD6.out.gn.c0
   obtain ⟨b60,b61,b62,b63,_,_⟩:=HD6.out.cells
   go_cut [56] from 31 to 93 (fun v56 wx=>∃ b,v56 = .bool b∧DS gb rb vb n w fb s z1 vf m ys (q+2+ps.length*262+2) (k+ps.length) free (.slice pq0 ps.length pr0) ps (.slice pp0 ls.length pc0) ls wx∧NR wx (.slice (some ⟨pb,0,none⟩) 1 1) [⟨19,0,0,st,0⟩])
   case first =>
    by_cases hf0:(0:Int) < free
    ·go_wp2_with fail
     go_meet
     case rel=>exact ⟨true,rfl,HD6.out.ty (.refl _) (HD6.out.gn.mono (by omega)),HN6.out⟩
    ·obtain rfl:free=0:=by omega
     go_wp2_with fail
     refine (Gn.pick HD6.out.gn (by omega) 3 (by omega) (by omega)).mono ?_
     rintro e w7 ⟨z7,hz7,rfl,hg7,ht7⟩
     have HD7:=hide (HD6.out.ty ht7 hg7)
     have HN7:=hide (HN6.out.ty ht7)
     clear hg7 ht7
     go_wp2_with fail
     go_meet
     case rel=>exact ⟨_,rfl,HD7.out,HN7.out⟩
   case rest =>
    obtain ⟨b,rfl,hDc,hNc⟩:=hcut
    have HDc:=hide hDc
    have HNc:=hide hNc
    clear hDc hNc HD6 HN6 c06 b60 b61 b62 b63
    rename ∀ (a:Act) (w:World),_→_=>hKK
    refine hKK _ _ ?_
    go_cut [8] from 31 to 93 (fun v8 wx=>∃ (free':Int) (g:Option Addr) (c:Nat) (l:List Tr.Nd),v8 = .slice g (ls.length+1) c∧0 < l.length∧l.length≤261∧free≤free'∧free'≤free+1∧DS gb rb vb n w fb s z1 vf m ys (q+2+ps.length*262+262) (k+ps.length) free' (.slice pq0 ps.length pr0) ps (.slice g (ls.length+1) c) (ls++[l]) wx∧NR wx (.slice (some ⟨pb,0,none⟩) 1 1) [⟨19,0,0,st,0⟩])
    case first =>
     cases b
     ·have bx:=HNc.out.1
      have x0:=World.ownsRow.cells bx rfl 0 _ rfl
      have x1:=World.ownsRow.cells bx rfl 1 _ rfl
      have x2:=World.ownsRow.cells bx rfl 2 _ rfl
      have x3:=World.ownsRow.cells bx rfl 3 _ rfl
      have x4:=World.ownsRow.cells bx rfl 4 _ rfl
      rw [add_plainP,Nat.zero_add] at x0 x1 x2 x3 x4
      have BA:Below wc.heap.size wc (wc.alloc (.cells #[.int .i64 19,.int .i64 0,.int .i64 0,.string st,.int .i64 0] 82)):=bA _
      have HDa:=hide (HDc.out.below BA)
      have HNa:=hide (HNc.out.below BA)
      have HNn:=hide (nr_new wc ⟨19,0,0,st,0⟩ hst9)
      have HZ:Hid ((wc.alloc (.cells #[.int .i64 19,.int .i64 0,.int .i64 0,.string st,.int .i64 0] 82)).heap.size=wc.heap.size+1):=hide (by simp)
      obtain ⟨vs4,pv4,pw4⟩:=HDa.out.pw
      have HV4:=hide pv4
      have HW4:=hide pw4
      have hz6:=HDa.out.tf.size
      rw [HZ.out] at hz6
      clear bx BA pv4 pw4
      go_wp2_with (at_builtin;refine wpList_append_own_at _ rfl _ _ 94 rfl w.heap.size 48 iP _ 1 24 Tryz.underlying94 hP hPz hPs hPb rfl (by decide) _ ls.length vs4 rfl (HV4.out.alloc _) ⟨wc.heap.size+1,0,none⟩ 1 1 [.slice (some ⟨wc.heap.size,0,none⟩) 1 1] rfl rfl (cells_litC _ [_] _ _ HZ.out.symm) (by simp [Value.oneCell']) (by unfold maxLen;omega) (by omega) (by simp;omega) ?_)
      intro v5 w5 ra rb_ rc rd
      obtain ⟨hp5,hpf5⟩:=pushed HV4.out HW4.out HNn.out (by simp) ra rb_
      obtain ⟨sp5,sc5,hs5⟩:=row_formP ra
      subst hs5
      have HD5:=hide (HDa.out.pf hpf5 hp5)
      have HN5:=hide (hpf5.nr HNa.out)
      clear ra rb_ rc rd hp5 hpf5
      go_wp2_with fail
      go_meet
      case rel=>exact ⟨free,_,_,_,rfl,by simp,by simp,Int.le_refl _,by omega,HD5.out.ty (.refl _) (HD5.out.gn.mono (by omega)),HN5.out⟩
     ·have HDd:=hide (HDc.out.below (Below.refl _ _).drew)
      have HNd:=hide (HNc.out.below (Below.refl _ _).drew)
      have hDx:=HNd.out
      have d0:=hDx.1.cells rfl 0 _ rfl
      have d1:=hDx.1.cells rfl 1 _ rfl
      have d2:=hDx.1.cells rfl 2 _ rfl
      have d3:=hDx.1.cells rfl 3 _ rfl
      have d4:=hDx.1.cells rfl 4 _ rfl
      rw [add_plainP,Nat.zero_add] at d0 d1 d2 d3 d4
      clear hDx
      go_wp2_with fail
      go_region_law (first
       | (refine step_call3E rfl 83 (.tmp 59) (.tmp 60) (.const (.int .i64 1)) _ _ _ rfl (.pointer (some ⟨gb,0,none⟩)) (.int .i64 (z4:Int)) (.int .i64 1) (by first | (simp [Act.eval];done) | simp [Act.eval,Act.put]) (by first | (simp [Act.eval];done) | simp [Act.eval,Act.put]) (by first | (simp [Act.eval];done) | simp [Act.eval,Act.put]) Tryz.f83 Tryz.func83 (by kernel_rfl) (by kernel_rfl) _ (gmk_ex gb rb vb n (HE1.out _ _ _ _ HDd.out.gn (by omega) (by omega))) ?_;intro v9 w9 h9;obtain ⟨l9,nr9,p9,m9,hg9,ht9⟩:=h9;obtain ⟨gq9,cq9,hv9⟩:=nr9.form p9;subst hv9;have HN9:=hide nr9;have HD9:=hide (HDd.out.ty ht9 hg9);have HNx9:=HNd.out.ty ht9;have HNp9:=hide HNx9;have y0:=HNx9.1.cells rfl 0 _ rfl;have y1:=HNx9.1.cells rfl 1 _ rfl;have y2:=HNx9.1.cells rfl 2 _ rfl;have y3:=HNx9.1.cells rfl 3 _ rfl;have y4:=HNx9.1.cells rfl 4 _ rfl;rw [add_plainP,Nat.zero_add] at y0 y1 y2 y3 y4;have HNx8:=HNx9.below (bA (.cells #[.slice (some ⟨gq9,0,none⟩) l9.length cq9] 48));have u0:=HNx8.1.cells rfl 0 _ rfl;have u1:=HNx8.1.cells rfl 1 _ rfl;have u2:=HNx8.1.cells rfl 2 _ rfl;have u3:=HNx8.1.cells rfl 3 _ rfl;have u4:=HNx8.1.cells rfl 4 _ rfl;rw [add_plainP,Nat.zero_add] at u0 u1 u2 u3 u4;clear HNx9 HNx8 nr9 hg9 ht9)
       | (refine step_call2E rfl 61 (.tmp 58) (.tmp 62) _ _ rfl (ndV ⟨19,0,0,st,0⟩) (.slice (some ⟨w9.heap.size,0,none⟩) 1 1) (by unfold ndV;first | (simp [Act.eval];done) | simp [Act.eval,Act.put]) (by first | (simp [Act.eval];done) | simp [Act.eval,Act.put]) Tryz.f61 Tryz.func61 (by kernel_rfl) (by kernel_rfl) _ (mk_ex (over_mk ⟨19,0,0,st,0⟩ [_] _ (w9.alloc _) 260 (pr1 HN9.out p9) (by rw [fl1];omega) (by omega) (by simp) hst9)) ?_;intro v8 w8 h8;obtain ⟨l8,nr8,p8,m8,b8⟩:=h8;obtain ⟨gq8,cq8,hv8⟩:=nr8.form p8;subst hv8;have HN8:=hide nr8;have HD8:=hide ((HD9.out.below (bA _)).below b8);have HNp8:=hide ((HNp9.out.below (bA _)).below b8);obtain ⟨vs8,pv8,pw8⟩:=HD8.out.pw;have HV8:=hide pv8;have HW8:=hide pw8;have hz8:=HD8.out.tf.size;clear pv8 pw8 nr8 b8)
       | (refine step_append_ownP rfl (.tmp 57) (.tmp 64) 94 rfl (w.heap.size) 48 iP _ 1 24 Tryz.underlying94 hP hPz hPs hPb rfl (by decide) (.slice pp0 ls.length pc0) ls.length vs8 (by first | (simp [Act.eval];done) | simp [Act.eval,Act.put]) (HV8.out.alloc _) ⟨w8.heap.size,0,none⟩ 1 1 [.slice (some ⟨gq8,0,none⟩) l8.length cq8] (by first | (simp [Act.eval];done) | simp [Act.eval,Act.put]) rfl (cells_litC _ [_] _ _ rfl) (by simp [Value.oneCell']) (by unfold maxLen;omega) (by omega) (by simp;omega) ?_;intro v10 w10 ra rb_ rc rd;obtain ⟨sp10,sc10,hs10⟩:=row_formP ra;subst hs10;obtain ⟨hp10,hpf10⟩:=pushed HV8.out HW8.out HN8.out p8 ra rb_;have HD10:=hide (HD8.out.pf hpf10 hp10);have HNp10:=hide (hpf10.nr HNp8.out);clear hp10 hpf10 ra rb_ rc rd))
      all_goals
       obtain ⟨f0,f1,f2,f3,f4,f5⟩:=HD10.out.cells
       have hwf:IntKind.i64.wrap (free+1)=free+1:=by rw [IntKind.wrap_i64];omega
       have HD11:=hide (HD10.out.setFree (free+1))
       have HN11:Hid (NR (w10.setCell ⟨fb,2,none⟩ (.int .i64 (free+1))) (.slice (some ⟨pb,0,none⟩) 1 1) [⟨19,0,0,st,0⟩]):=hide ⟨row_setC HNp10.out.1 (by rw [HD10.out.fty];decide),HNp10.out.2⟩
       go_wp2_with fail
       go_meet
       case rel=>exact ⟨free+1,_,_,_,rfl,p8,by omega,by omega,Int.le_refl _,HD11.out.ty (.refl _) (HD11.out.gn.mono (by omega)),HN11.out⟩
    case rest =>
     obtain ⟨free',g8,c8,l8,rfl,hl80,hl81,hfa,hfb',hD8,hN8⟩:=hcut
     have HD8:=hide hD8
     obtain ⟨nv,nx,n1,n2,n3⟩:=hD8.gn.nm
     obtain ⟨np8,nc8,hnv⟩:=row_formP n2
     subst hnv
     have x3:=World.ownsRow.cells hN8.1 rfl 3 _ rfl
     rw [add_plainP,Nat.zero_add] at x3
     have hpl:=World.block_lt_of_cell? wc ⟨pb,3,none⟩ x3
     have BD:Below wc.heap.size wc wc.drew:=(Below.refl _ _).drew
     have BL:Below wc.heap.size wc (wc.alloc (.cells #[.string st,.int .i64 (z4:Int)] 123)).drew:=(bA _).drew
     have hgl:=hD8.gn.lt
     have HGa:=hide (hD8.gn.below BL)
     have n1d:wc.drew.cell? ⟨gb,1,none⟩=_:=(BD.cell (p:=⟨gb,1,none⟩) hgl).trans n1
     have n1a:(wc.alloc (.cells #[.string st,.int .i64 (z4:Int)] 123)).drew.cell? ⟨gb,1,none⟩=_:=(BL.cell (p:=⟨gb,1,none⟩) hgl).trans n1
     have x3d:wc.drew.cell? ⟨pb,3,none⟩=_:=(BD.cell (p:=⟨pb,3,none⟩) hpl).trans x3
     have HRa:=hide (row_belowP n2 BL)
     have HCL:Hid (∀ (j:Nat) (u:Value),([.string st,.int .i64 (z4:Int)]:List Value)[j]?=some u→(wc.alloc (.cells #[.string st,.int .i64 (z4:Int)] 123)).drew.cell? ((⟨wc.heap.size,0,none⟩:Addr).add j)=some u):=hide (cells_litC wc [.string st,.int .i64 (z4:Int)] _ _ rfl)
     have HS:=hide (n3.snoc n2.1 ⟨st,hst9⟩ (z4:Int))
     have HTa:Hid (Ty wc (wc.alloc (.cells #[.string st,.int .i64 (z4:Int)] 123)).drew):=hide (.of BL)
     have hrl:rb+1≤(wc.alloc (.cells #[.string st,.int .i64 (z4:Int)] 123)).drew.heap.size:=by have:=hD8.tf.size;have:=BL.size;omega
     clear hD8 hN8 n1 n2 n3 x3 BD BL HDc HNc
     go_upto_region 13 with fail
     go_cut [] from 31 to 93 (fun wx=>DS gb rb vb n w fb s z1 vf m ys (q+2+ps.length*262+262) (k+ps.length+1) free' (.slice pq0 ps.length pr0) ps (.slice g8 (ls.length+1) c8) (ls++[l8]) wx)
     case first =>
      go_region_law (first
       | (refine step_append_ownP rfl (.tmp 79) (.tmp 84) 100 rfl (rb+1) 123 iN _ 2 24 Tryz.underlying100 hNi hNz hNs hNb rfl (by decide) (.slice np8 (k+ps.length) nc8) (k+ps.length) nx (by first | (simp [Act.eval];done) | simp [Act.eval,Act.put]) HRa.out ⟨wc.heap.size,0,none⟩ 1 1 [.string st,.int .i64 (z4:Int)] (by first | (simp [Act.eval];done) | simp [Act.eval,Act.put]) rfl HCL.out (by simp [Value.oneCell']) (by unfold maxLen;omega) (by omega) hrl ?_;intro v5 w5 r1 r2 r3 r4;have ne5:some gb≠(Value.slice np8 (k+ps.length) nc8).ownBlock:=(fun e=>by have h1:=row_tyAt HRa.out e.symm;rw [HGa.out.ty] at h1;cases h1);have q5:=(World.cell?_of_block (a:=⟨gb,1,none⟩) (r2.block gb HGa.out.lt ne5)).trans n1a;have q6:=(World.frozen?_of_block (a:=⟨gb,1,none⟩) (r2.block gb HGa.out.lt ne5)).trans (HGa.out.fr 1);obtain ⟨sp5,sc5,hv5⟩:=row_formP r1;subst hv5;have HG5:=hide (HGa.out.push n1a r2 r1 HS.out (by omega));have HY5:Hid (Ty wc (w5.setCell ⟨gb,1,none⟩ (.slice sp5 (k+ps.length+1) sc5))):=hide ((HTa.out.trans (.grown r2 (fun b hb=>by rw [row_tyAt HRa.out hb];exact .inr (.inr rfl)) (fun b hb=>by rw [row_tyAt HRa.out hb];decide) (fun b hb=>Nat.le_trans HGa.out.lo (Nat.le_of_succ_le (HRa.out.lt b hb).1)))).trans (.set (by rw [tyAt_block (r2.block gb HGa.out.lt ne5)];exact HGa.out.mine) (by decide)));clear r1 r2 r3 r4 ne5))
      all_goals
       go_wp2_with fail
       go_meet
       case rel=>exact HD8.out.ty HY5.out HG5.out
     case rest =>
      have HDe:=hide hcut
      obtain ⟨f0,f1,f2,f3,f4,f5⟩:=hcut.cells
      have BI:Below wc.heap.size wc (wc.alloc (.cells #[.int .i64 (z4:Int)] 3)):=bA _
      have HDf:=hide (hcut.below BI)
      have HPr:=hide (hcut.prow.alloc (.cells #[.int .i64 (z4:Int)] 3))
      have hsz:fb≤(wc.alloc (.cells #[.int .i64 (z4:Int)] 3)).heap.size:=by have:=HDf.out.flt;omega
      clear hcut HD8 HGa HRa HS HTa HCL hrl n1d n1a x3d BI
      go_wp2_with (at_builtin;refine wpList_append_own_at _ rfl _ _ 83 rfl fb 3 iI _ 1 8 Tryz.underlying83 hIi hIz hIs hIb rfl (by decide) _ ps.length (ps.map (Value.int .i64)) rfl HPr.out ⟨wc.heap.size,0,none⟩ 1 1 [.int .i64 (z4:Int)] rfl rfl (cells_litC _ [_] _ _ rfl) (by simp [Value.oneCell']) (by unfold maxLen;omega) (by omega) hsz ?_)
      intro v6 w6 r1 r2 r3 r4
      obtain ⟨e1,hd6⟩:=HDf.out.grown (pvv':=v6) (ps':=ps++[(z4:Int)]) r2 (by rw [List.length_append,List.map_append];exact r1)
      obtain ⟨sp6,sc6,hs6⟩:=row_formP r1
      subst hs6
      have q1:=(World.cell?_of_block (a:=⟨fb,1,none⟩) e1).trans HDf.out.cells.2.1
      have q2:=(World.frozen?_of_block (a:=⟨fb,1,none⟩) e1).trans HDf.out.cells.2.2.2.2.1
      have elp:(ps++[(z4:Int)]).length=ps.length+1:=by simp
      have HD6:Hid (DS gb rb vb n w fb s z1 vf m ys (q+2+(ps++[(z4:Int)]).length*262) (k+(ps++[(z4:Int)]).length) free' (.slice sp6 (ps.length+1) sc6) (ps++[(z4:Int)]) (.slice g8 (ls.length+1) c8) (ls++[l8]) (w6.setCell ⟨fb,1,none⟩ (.slice sp6 (ps.length+1) sc6))):=hide (by rw [elp];exact hd6.ty (.refl _) (hd6.gn.mono (by omega)))
      have HEL:=hide elp
      clear r1 r2 r3 r4 e1 hd6 elp HDe HDf HPr f0 f1 f2 f3 f4 f5
      go_wp2
      go_roundw
      case rel=>exact ⟨i,free',_,ps++[(z4:Int)],ls++[l8],by omega,by go_num,by rw [HEL.out];omega,by rw [HEL.out,List.length_append,HLP.out];rfl,by omega,by rw [HEL.out];omega,by rw [HEL.out,List.flatten_append,List.length_append,fl1];omega,HD6.out⟩
      case measure=>simp [intOf]
end Go.Proofs.YtbckhbeebngjfaaGreatDoor
