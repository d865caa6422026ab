/- Tki. -/
import Derived.Test.YtbckhbeebngjfaaGreatDoorT35
import Derived.Deep.CutRange
import Derived.Deep.CutBlock
namespace Go.Proofs.YtbckhbeebngjfaaGreatDoor
open Go.RowKit
def lsGaps:List ByteArray:=[⟨#[32]⟩,⟨#[32]⟩,⟨#[10]⟩,⟨#[32,32]⟩,⟨#[32,35,32,97,32,103,97,112,59,32,91,10]⟩]
theorem lsGaps_le [Inhabited Bs]:∀ x∈lsGaps,x.size≤12:=by decide
theorem ext_size2 [Inhabited Bs] (s:ByteArray) (a b:Nat) (hb:b≤s.size):(s.extract a b).size≤b - a:=by
 rw [ByteArray.size_extract];omega
def strLen:Value→Nat
 | .string u=>u.size
 | _=>0
set_option maxRecDepth 100000 in
set_option maxHeartbeats 8000000 in
theorem loose_any [Inhabited Bs] (rb:Nat) (vb:Value) (n q:Nat) (s:ByteArray) (w:World) (h:Rq rb vb n q w) (hq:q≤800000000) (hs:s.size≤8000):Calls Tryz.prog 18 #[.pointer (some ⟨rb,0,none⟩),.string s] w fun e w'=>Txt rb vb n q 16000 130000 w e w':=by
 obtain ⟨i0,hii,hz0,hz1,hz2⟩:=info_parts Tryz.infoByte
 have hlt8:=Sc.toks_lenP s
 have hrl:=h.lt
 have HR:=hide h
 have HSC:=hide (sscan_any s w (by omega))
 clear h
 go_enter Tryz.func18,Tryz.ntmps18
 go_wp2_with fail
 refine HSC.out.mono ?_
 rintro e w1 ⟨v1,rfl,hrow1,b1⟩
 obtain ⟨tp,tc,rfl⟩:=row_formP hrow1
 have b2:Below w1.heap.size w1 (w1.alloc (.cells #[.int .i64 (Sc.code s),.int .i64 (Sc.at_ s)] 26)):=bA _
 have B2:=b1.trans (b2.mono b1.size)
 have HR2:=hide (HR.out.below B2)
 have HT2:Hid (Ty w (w1.alloc (.cells #[.int .i64 (Sc.code s),.int .i64 (Sc.at_ s)] 26))):=hide (.of B2)
 have HK2:=hide (row_below (rowLeC hrow1 (Nat.zero_le _)) b2)
 have x0:(w1.alloc (.cells #[.int .i64 (Sc.code s),.int .i64 (Sc.at_ s)] 26)).cell? ⟨w1.heap.size,0,none⟩=some (.int .i64 (Sc.code s)):=by simp
 have hsz2:=B2.size
 clear HSC HR hrow1 b1 b2 B2
 by_cases hc:Sc.code s=0
 ·rw [hc] at x0
  have b3:Below (w1.alloc (.cells #[.int .i64 (Sc.code s),.int .i64 (Sc.at_ s)] 26)).heap.size (w1.alloc (.cells #[.int .i64 (Sc.code s),.int .i64 (Sc.at_ s)] 26)) ((w1.alloc (.cells #[.int .i64 (Sc.code s),.int .i64 (Sc.at_ s)] 26)).alloc (.cells #[] 5)):=bA _
  have HL0:Hid (LS rb vb n w (.slice tp (Sc.toks s).length tc) (Sc.toks s) q (w1.heap.size+1) 0 [] ((w1.alloc (.cells #[.int .i64 (Sc.code s),.int .i64 (Sc.at_ s)] 26)).alloc (.cells #[] 5))):=hide ⟨HR2.out.below b3,HT2.out.trans (.of b3),row_below HK2.out b3,by
   have:=World.ownsRow_lit (base:=w.heap.size) (e:=5) (size:=1) (w1.alloc (.cells #[.int .i64 (Sc.code s),.int .i64 (Sc.at_ s)] 26)) #[] 0 hsz2 (by decide) rfl
   rw [World.size_alloc] at this
   exact this,hrl⟩
  rw [hc] at HL0
  clear b3 HR2 HT2 HK2
  go_wp2
  go_loopw [7,8] (fun v i wr=>∃ (j q' gt cap:Nat) (t:List UInt8),j≤(Sc.toks s).length∧i = .int .i64 j∧v = .slice (some ⟨gt,0,none⟩) t.length cap∧q'≤q+2 * j∧t.length≤Sc.begAt s j+14 * j∧LS rb vb n w (.slice tp (Sc.toks s).length tc) (Sc.toks s) q' gt cap t wr) (fun _ i _=>(Sc.toks s).length - (intOf i).toNat)
  case atStart=>exact ⟨0,q,w1.heap.size+1,0,[],Nat.zero_le _,rfl,rfl,by omega,by simp,HL0.out⟩
  case round =>
   obtain ⟨j,q',gt,cap,t,hj,rfl,rfl,hq',htl,hL⟩:=hrel
   have HL:=hide hL
   clear hL HL0
   by_cases hlt:j < (Sc.toks s).length
   ·obtain ⟨hb1,hb2,hb3⟩:=Sc.beg_lt hc j hlt
    obtain ⟨tg,tc2,htv⟩:=row_some HL.out.toks (by omega)
    obtain ⟨htp,htc⟩:tp=some ⟨tg,0,none⟩∧tc=tc2:=by cases htv;exact ⟨rfl,rfl⟩
    subst htp
    clear htv htc
    have k0:=row_cellsC HL.out.toks (Sc.cellsOf_atP (Sc.toks s) j hlt).1
    have k3:=row_cellsC HL.out.toks (Sc.cellsOf_atP (Sc.toks s) j hlt).2.2.2
    rw [← hb1] at k3
    clear hb1
    generalize ((Sc.toks s)[j]).kind=kd at *
    have hbl:=hb2
    obtain ⟨a,ha⟩:∃ a,Sc.begAt s j=a:=⟨_,rfl⟩
    obtain ⟨e,he⟩:∃ e,Sc.begAt s (j+1)=e:=⟨_,rfl⟩
    have HA:=hide ha
    have HEE:=hide he
    rw [ha] at k3 hb2 htl
    rw [he] at hb2 hb3
    clear ha he hbl
    go_upto_if 33 with fail
    go_cut [9] from 21 to 95 (fun v wx=>v = .int .i64 (e:Int)∧wx=wr)
    case first =>
     by_cases hlast:j+1 < (Sc.toks s).length
     ·have m3:=row_cellsC HL.out.toks (Sc.cellsOf_atP (Sc.toks s) (j+1) hlast).2.2.2
      have hpl:((Sc.toks s)[j+1]).place=e:=by rw [← HEE.out];unfold Sc.begAt;rw [List.getElem?_eq_getElem hlast];rfl
      rw [hpl] at m3
      go_wp2_with fail
      go_meet
      case rel=>exact ⟨rfl,rfl⟩
     ·have hes:e=s.size:=by rw [← HEE.out];unfold Sc.begAt;rw [List.getElem?_eq_none (by omega)];rfl
      have hl':¬ (j:Int)+1 < ((Sc.toks s).length:Int):=by omega
      go_wp2_with fail
      go_meet
      case rel=>exact ⟨by rw [hes],rfl⟩
    case rest =>
     obtain ⟨rfl,rfl⟩:=hcut
     have hx:=ext_size2 s a e hb3
     go_upto_block 2 with fail
     go_cut [10] from 21 to 95 (fun v wx=>∃ u:ByteArray,v = .string u∧u.size≤e - a∧wx=wc)
     case first =>
      go_wp2_with fail
      go_loop [10] (fun x=>∃ u:ByteArray,x = .string u∧u.size≤e - a) (fun x=>strLen x)
      case atStart=>exact ⟨_,rfl,hx⟩
      case round =>
       obtain ⟨u,rfl,hu⟩:=hrel
       by_cases hu0:0 < u.size
       ·obtain ⟨k,hk⟩:∃ k,u.size=k+1:=⟨u.size - 1,by omega⟩
        have hku:k < u.size:=by omega
        have ek:IntKind.i64.wrap ((u.size:Int) - 1)=(k:Int):=by rw [IntKind.wrap_i64];omega
        have x1:=ext_size2 u 0 k (by omega)
        have k1:(0:Int)≤(k:Int):=by omega
        have k2:(k:Int)≤(u.size:Int):=by omega
        by_cases h32:(u[k].toNat:Int)=32
        ·have b1:((u[k].toNat:Int) == 32)=true:=by simpa using h32
         go_wp2
         go_round
         case rel=>exact ⟨_,rfl,by omega⟩
         case measure=>simp only [strLen];omega
        ·have b1:((u[k].toNat:Int) == 32)=false:=by simpa using h32
         by_cases h10:(u[k].toNat:Int)=10
         ·have b2:((u[k].toNat:Int) == 10)=true:=by simpa using h10
          go_wp2
          go_round
          case rel=>exact ⟨_,rfl,by omega⟩
          case measure=>simp only [strLen];omega
         ·have b2:((u[k].toNat:Int) == 10)=false:=by simpa using h10
          go_wp2_with fail
          go_meet
          case rel=>exact ⟨_,rfl,hu,rfl⟩
       ·have h0:¬ (0:Int) < (u.size:Int):=by omega
        go_wp2_with fail
        go_meet
        case rel=>exact ⟨_,rfl,hu,rfl⟩
     case rest =>
      obtain ⟨u,rfl,hu,rfl⟩:=hcut
      go_upto_region 14 with fail
      go_cut [82] from 21 to 95 (fun v wx=>∃ (b:Bool) (q2:Nat),v = .bool b∧q2≤q'+1∧LS rb vb n w (.slice (some ⟨tg,0,none⟩) (Sc.toks s).length tc) (Sc.toks s) q2 gt cap t wx)
      case first =>
       by_cases h3:(kd:Int)=3
       ·have b3:((kd:Int) == 3)=true:=by simpa using h3
        go_wp2_with fail
        refine (Rq.pick HL.out.R (by omega) 3 (by omega) (by omega)).mono ?_
        rintro e6 w6 ⟨z6,hz6,rfl,hr6,ht6⟩
        have HL6:=hide (HL.out.pick hr6 ht6)
        go_wp2_with fail
        go_meet
        case rel=>exact ⟨_,_,rfl,Nat.le_refl _,HL6.out⟩
       ·have b3:((kd:Int) == 3)=false:=by simpa using h3
        go_wp2_with fail
        go_meet
        case rel=>exact ⟨_,q',rfl,by omega,HL.out⟩
      case rest =>
       obtain ⟨b,q2,rfl,hq2,hLC⟩:=hcut
       have HC:=hide hLC
       clear hLC HL k0 k3
       cases b
       ·have hu9:(u).size≤e - a+2:=by omega
        go_wp2_with (at_builtin;refine Lib.wpList_append_own_string _ rfl _ _ 22 9 rfl w.heap.size 5 i0 Tryz.underlying22 Tryz.underlying9 hii hz0 hz1 hz2 _ _ _ rfl HC.out.out (u) rfl (by unfold maxLen;omega) (by omega) (by have:=HC.out.T.size;omega) ?_)
        intro v4 w4 ho4 hg4 hn4
        obtain ⟨g4,cap4,rfl,hL4⟩:=HC.out.app ho4 hg4 hn4
        clear ho4 hg4 hn4
        have hl4:(t++(u).data.toList).length=t.length+(u).size:=by rw [List.length_append,Array.length_toList];rfl
        have ht4:(t++(u).data.toList).length≤e+14 * j+2:=by omega
        obtain ⟨t4,ht4e⟩:∃ t4,t4=t++(u).data.toList:=⟨_,rfl⟩
        rw [← ht4e] at hL4 ht4 ⊢
        clear hl4 ht4e hu9
        have b5:Below w4.heap.size w4 (w4.alloc (.cells #[.string ⟨#[32]⟩,.string ⟨#[32]⟩,.string ⟨#[10]⟩,.string ⟨#[32,32]⟩,.string ⟨#[32,35,32,97,32,103,97,112,59,32,91,10]⟩] 9)):=bA _
        have HL5:=hide (hL4.below b5)
        have HG5:=hide (World.ownsRow_lit (base:=0) (e:=9) (size:=1) w4 #[.string ⟨#[32]⟩,.string ⟨#[32]⟩,.string ⟨#[10]⟩,.string ⟨#[32,32]⟩,.string ⟨#[32,35,32,97,32,103,97,112,59,32,91,10]⟩] 5 (Nat.zero_le _) (by unfold maxLen;omega) rfl)
        clear hL4 b5 HC
        go_wp2_with fail
        refine (Rq.pick HL5.out.R (by omega) 5 (by omega) (by omega)).mono ?_
        rintro e6 w6 ⟨z6,hz6,rfl,hr6,ht6⟩
        obtain ⟨x6,hx6,hxs⟩:=strs_at lsGaps 12 z6 lsGaps_le (by show z6 < 5;omega)
        have cl:=row_cellsC (row_ty HG5.out ht6 (by unfold Mine;simp)) hx6
        have HL6:=hide (HL5.out.pick hr6 ht6)
        clear hr6 ht6 HL5 HG5 hx6
        go_wp2_with (at_builtin;refine Lib.wpList_append_own_string _ rfl _ _ 22 9 rfl w.heap.size 5 i0 Tryz.underlying22 Tryz.underlying9 hii hz0 hz1 hz2 _ _ _ rfl HL6.out.out (x6) rfl (by unfold maxLen;omega) (by omega) (by have:=HL6.out.T.size;omega) ?_)
        intro v7 w7 ho7 hg7 hn7
        obtain ⟨g7,cap7,rfl,hL7⟩:=HL6.out.app ho7 hg7 hn7
        have hl7:(t4++x6.data.toList).length=t4.length+x6.size:=by rw [List.length_append,Array.length_toList];rfl
        clear ho7 hg7 hn7 cl
        go_wp2
        go_roundw
        case rel=>exact ⟨j+1,_,g7,cap7,_,by omega,by go_num,rfl,by omega,by rw [HEE.out];omega,hL7⟩
        case measure=>simp [intOf];omega
       ·have hu9:((⟨#[40]⟩:ByteArray)++u++(⟨#[41]⟩:ByteArray)).size≤e - a+2:=by rw [sz_add,sz_add];have e1:(⟨#[40]⟩:ByteArray).size=1:=rfl;have e2:(⟨#[41]⟩:ByteArray).size=1:=rfl;omega
        go_wp2_with (at_builtin;refine Lib.wpList_append_own_string _ rfl _ _ 22 9 rfl w.heap.size 5 i0 Tryz.underlying22 Tryz.underlying9 hii hz0 hz1 hz2 _ _ _ rfl HC.out.out ((⟨#[40]⟩:ByteArray)++u++(⟨#[41]⟩:ByteArray)) rfl (by unfold maxLen;omega) (by omega) (by have:=HC.out.T.size;omega) ?_)
        intro v4 w4 ho4 hg4 hn4
        rw [show (1+u.size+1)=((⟨#[40]⟩:ByteArray)++u++(⟨#[41]⟩:ByteArray)).size from by rw [sz_add,sz_add];rfl] at ho4
        obtain ⟨g4,cap4,rfl,hL4⟩:=HC.out.app ho4 hg4 hn4
        clear ho4 hg4 hn4
        have hl4:(t++((⟨#[40]⟩:ByteArray)++u++(⟨#[41]⟩:ByteArray)).data.toList).length=t.length+((⟨#[40]⟩:ByteArray)++u++(⟨#[41]⟩:ByteArray)).size:=by rw [List.length_append,Array.length_toList];rfl
        have ht4:(t++((⟨#[40]⟩:ByteArray)++u++(⟨#[41]⟩:ByteArray)).data.toList).length≤e+14 * j+2:=by omega
        obtain ⟨t4,ht4e⟩:∃ t4,t4=t++((⟨#[40]⟩:ByteArray)++u++(⟨#[41]⟩:ByteArray)).data.toList:=⟨_,rfl⟩
        rw [← ht4e] at hL4 ht4 ⊢
        clear hl4 ht4e hu9
        have b5:Below w4.heap.size w4 (w4.alloc (.cells #[.string ⟨#[32]⟩,.string ⟨#[32]⟩,.string ⟨#[10]⟩,.string ⟨#[32,32]⟩,.string ⟨#[32,35,32,97,32,103,97,112,59,32,91,10]⟩] 9)):=bA _
        have HL5:=hide (hL4.below b5)
        have HG5:=hide (World.ownsRow_lit (base:=0) (e:=9) (size:=1) w4 #[.string ⟨#[32]⟩,.string ⟨#[32]⟩,.string ⟨#[10]⟩,.string ⟨#[32,32]⟩,.string ⟨#[32,35,32,97,32,103,97,112,59,32,91,10]⟩] 5 (Nat.zero_le _) (by unfold maxLen;omega) rfl)
        clear hL4 b5 HC
        go_wp2_with fail
        refine (Rq.pick HL5.out.R (by omega) 5 (by omega) (by omega)).mono ?_
        rintro e6 w6 ⟨z6,hz6,rfl,hr6,ht6⟩
        obtain ⟨x6,hx6,hxs⟩:=strs_at lsGaps 12 z6 lsGaps_le (by show z6 < 5;omega)
        have cl:=row_cellsC (row_ty HG5.out ht6 (by unfold Mine;simp)) hx6
        have HL6:=hide (HL5.out.pick hr6 ht6)
        clear hr6 ht6 HL5 HG5 hx6
        go_wp2_with (at_builtin;refine Lib.wpList_append_own_string _ rfl _ _ 22 9 rfl w.heap.size 5 i0 Tryz.underlying22 Tryz.underlying9 hii hz0 hz1 hz2 _ _ _ rfl HL6.out.out (x6) rfl (by unfold maxLen;omega) (by omega) (by have:=HL6.out.T.size;omega) ?_)
        intro v7 w7 ho7 hg7 hn7
        obtain ⟨g7,cap7,rfl,hL7⟩:=HL6.out.app ho7 hg7 hn7
        have hl7:(t4++x6.data.toList).length=t4.length+x6.size:=by rw [List.length_append,Array.length_toList];rfl
        clear ho7 hg7 hn7 cl
        go_wp2
        go_roundw
        case rel=>exact ⟨j+1,_,g7,cap7,_,by omega,by go_num,rfl,by omega,by rw [HEE.out];omega,hL7⟩
        case measure=>simp [intOf];omega
   ·have hbs:Sc.begAt s j=s.size:=by unfold Sc.begAt;rw [List.getElem?_eq_none (by omega)];rfl
    have hcv:=conv_row HL.out.out
    go_wp2
    go_ret
    exact ⟨_,rfl,by rw [sz_lit,List.size_toArray];omega,HL.out.R.mono (by omega),HL.out.T⟩
 ·have hcb:((Sc.code s:Int) != 0)=true:=by simp;omega
  go_wp2
  go_ret
  exact ⟨s,rfl,by omega,HR2.out.mono (by omega),HT2.out⟩
end Go.Proofs.YtbckhbeebngjfaaGreatDoor
