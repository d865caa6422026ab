/- Tkj, Tkl, Cr, Ct. -/
import Derived.Test.YtbckhbeebngjfaaGreatDoorT36
import Derived.Test.YtbckhbeebngjfaaGreatDoorT40
import Derived.Test.YtbckhbeebngjfaaGreatDoorT37
namespace Go.Proofs.YtbckhbeebngjfaaGreatDoor
open Go.RowKit
def dpTexts:List ByteArray:=[⟨#[108,101,116,32,97,32,61,32,98,32,60,32,99,32,60,32,100,59]⟩,⟨#[108,101,116,32,97,32,61,32,110,111,116,32,110,111,116,32,98,59]⟩,⟨#[108,101,116,32,97,32,61,32,98,32,61,61,32,110,111,116,32,99,59]⟩,⟨#[108,101,116,32,97,32,61,32,45,98,46,99,91,100,93,40,101,41,59]⟩,⟨#[108,101,116,32,97,32,61,32,91,120,32,102,111,114,32,120,32,105,110,32,105,102,32,121,32,116,104,101,110,32,122,32,101,108,115,101,32,119,32,105,102,32,118,93,59]⟩,⟨#[108,101,116,32,97,32,61,32,102,40,98,32,61,32,49,44,32,99,41,59]⟩,⟨#[108,101,116,32,97,32,61,32,123,98,58,32,49,44,32,34,99,32,100,34,58,32,50,44,32,98,58,32,51,125,59]⟩,⟨#[108,101,116,32,97,32,61,32,49,32,43,32,108,101,116,32,98,32,61,32,50,32,105,110,32,98,59]⟩,⟨#[100,101,102,32,102,40,97,44,32,97,41,32,61,32,49,59]⟩,⟨#[100,101,102,32,102,40,97,32,61,32,49,44,32,98,41,32,61,32,49,59]⟩,⟨#[108,111,97,100,32,34,88,34,58,32,97,59]⟩,⟨#[108,111,97,100,32,34,120,34,58,32,59]⟩,⟨#[101,109,105,116,59]⟩,⟨#[108,101,116,32,97,32,61,32,91,44,93,59]⟩,⟨#[108,101,116,32,97,32,61,32,40,102,110,40,41,32,61,62,32,49,41,40,41,59]⟩,⟨#[108,101,116,32,105,102,32,61,32,49,59]⟩,⟨#[108,101,116,32,97,32,61,32,49]⟩,⟨#[120,59]⟩,⟨#[108,101,116,32,97,32,61,32,45,32,45,32,49,32,42,32,50,59]⟩,⟨#[108,101,116,32,97,32,61,32,102,110,40,98,41,32,61,62,32,98,32,43,32,49,59]⟩,⟨#[35,32,110,111,116,104,105,110,103,10]⟩,⟨#[]⟩]
theorem dpTexts_le [Inhabited Bs]:∀ x∈dpTexts,x.size≤100:=by decide
def DSk [Inhabited Bs] (w:World) (e:Ending) (w':World):Prop:=∃ s:ByteArray,e = .returned (.string s)∧s.size≤300000∧Tf w w'
set_option maxRecDepth 100000 in
set_option maxHeartbeats 8000000 in
theorem drawParse_any [Inhabited Bs] (HPR:∀ rb vb n q w,Rq rb vb n q w→q≤90000000→Calls Tryz.prog 41 #[.pointer (some ⟨rb,0,none⟩)] w fun e w'=>RTk rb vb n q 250010 w e w') (HSP:∀ rb vb n,SpoilAt rb vb n) (m:Nat) (v:Value) (w:World) (h:ByV w v m) (hB:lowB≤w.heap.size):Calls Tryz.prog 11 #[v] w fun e w'=>DSk w e w':=by
 have HO:=hide (open_any m v _ h hB)
 have HPR:=hide HPR
 have HSP:=hide HSP
 obtain ⟨vp,vl,vc,hv⟩:∃ p l c,v = .slice p l c:=by
  rcases h with ⟨q,c,h,_⟩ | ⟨g,o,c,h,_⟩
  ·exact ⟨_,_,_,h⟩
  ·exact ⟨_,_,_,h⟩
 subst hv
 clear h
 go_enter Tryz.func11,Tryz.ntmps11
 go_wp2_with fail
 refine HO.out.mono ?_
 rintro e w1 ⟨rb,vb,n,rfl,hrb,hr1,b1⟩
 have HR1:Hid (Rq rb vb n 0 w1):=hide ⟨0,Nat.le_refl _,hr1⟩
 have HT1:Hid (Ty w w1):=hide (.of b1)
 clear hr1 b1 HO
 go_wp2_with fail
 refine (Rq.pick HR1.out (by omega) 24 (by omega) (by omega)).mono ?_
 rintro e w2 ⟨k,hk,rfl,hr2,ht2⟩
 have HR2:=hide hr2
 have HT2:=hide (HT1.out.trans ht2)
 clear hr2 ht2 HR1 HT1
 by_cases hk0:k=0
 ·subst hk0
  have HL:=hide (World.ownsRow_lit (base:=0) (e:=9) (size:=1) w2 (dpTexts.map Value.string).toArray 22 (Nat.zero_le _) (by unfold maxLen;omega) rfl)
  have b3:Below w2.heap.size w2 (w2.alloc (.cells (dpTexts.map Value.string).toArray 9)):=bA _
  have HR3:=hide (HR2.out.below b3)
  have HT3:=hide (HT2.out.trans (.of b3))
  clear b3
  simp only [dpTexts,List.map_cons,List.map_nil] at HL HR3 HT3
  go_wp2_with fail
  refine (Rq.pick HR3.out (by omega) 22 (by omega) (by omega)).mono ?_
  rintro e w4 ⟨z4,hz4,rfl,hr4,ht4⟩
  obtain ⟨x,hx,hxs⟩:=strs_at dpTexts 100 z4 dpTexts_le (by show z4 < 22;omega)
  have cl:=row_cellsC (row_ty HL.out ht4 (by unfold Mine;simp)) hx
  have HF:=hide (Ty.tf (HT3.out.trans ht4))
  clear ht4 hr4 HL
  go_wp2
  go_ret
  exact ⟨x,rfl,by omega,HF.out⟩
 ·have k0:((k:Int) == 0)=false:=by simp;omega
  by_cases hk1:k=1
  ·subst hk1
   have HM:=hide (manyS_any ⟨#[40]⟩ 3994 w2 4000 (by omega) (by omega) (by have:(⟨#[40]⟩:ByteArray).size=1:=rfl;rw [this];omega))
   have HF:=hide (Ty.tf HT2.out)
   go_wp2_with fail
   refine HM.out.mono ?_
   rintro e w3 ⟨t,rfl,hts,rfl⟩
   go_wp2
   go_ret
   exact ⟨_,rfl,by rw [sz_add,sz_add];have e1:(⟨#[108,101,116,32,97,32,61,32]⟩:ByteArray).size=8:=rfl;have e2:(⟨#[49]⟩:ByteArray).size=1:=rfl;omega,HF.out⟩
  ·have k1:((k:Int) == 1)=false:=by simp;omega
   go_wp2_with fail
   refine (any2_any rb vb n (HPR.out rb vb n) (HSP.out rb vb n) _ w2 HR2.out (by omega)).mono ?_
   rintro e w3 ⟨v3,l3,rfl,nr3,m3,hr3,ht3⟩
   have HP3:=hide (print_any v3 l3 w3 nr3 (by omega))
   have HR3:=hide hr3
   have HT3:=hide ((Ty.tf HT2.out).trans ht3)
   obtain ⟨p3,c3,hv3⟩:=nr3.val
   subst hv3
   clear nr3 hr3 ht3
   go_wp2_with fail
   refine HP3.out.mono ?_
   rintro e w4 ⟨s,rfl,hs,b4⟩
   have HR4:=hide (HR3.out.below b4)
   have HT4:=hide (HT3.out.trans (.of b4))
   clear b4 HP3 HR3 HT3 HR2 HT2
   go_wp2_with fail
   refine (Rq.pick HR4.out (by omega) 3 (by omega) (by omega)).mono ?_
   rintro e w5 ⟨z5,hz5,rfl,hr5,ht5⟩
   have HR5:=hide hr5
   have HT5:=hide (HT4.out.trans (Ty.tf ht5))
   clear hr5 ht5 HR4 HT4
   go_upto_if 31 with fail
   go_cut [6] from 29 to 34 (fun v wx=>∃ (s':ByteArray) (q':Nat),v = .string s'∧s'.size≤130000∧q'≤1000000∧Rq rb vb n q' wx∧Tf w wx)
   case first =>
    by_cases h0:z5=0
    ·subst h0
     go_wp2_with fail
     refine (loose_any rb vb n _ s w5 HR5.out (by omega) hs).mono ?_
     rintro e w6 ⟨s6,rfl,hs6,hr6,ht6⟩
     have HR6:=hide hr6
     have HT6:=hide (HT5.out.trans (Ty.tf ht6))
     clear hr6 ht6
     go_wp2_with fail
     go_meet
     case rel=>exact ⟨s6,_,rfl,hs6,by omega,HR6.out,HT6.out⟩
    ·have z0:((z5:Int) == 0)=false:=by simp;omega
     go_wp2_with fail
     go_meet
     case rel=>exact ⟨s,_,rfl,by omega,by omega,HR5.out,HT5.out⟩
   case rest =>
    obtain ⟨s',q',rfl,hs',hq',hrc,htc⟩:=hcut
    have HRC:=hide hrc
    have HTC:=hide htc
    clear hrc htc HR5 HT5
    by_cases hk2:k=2∧s'.size < 8000
    ·obtain ⟨rfl,hsl⟩:=hk2
     have hsi:(s'.size:Int) < 8000:=by omega
     go_wp2_with fail
     refine (Rq.pick HRC.out (by omega) 2 (by omega) (by omega)).mono ?_
     rintro e w7 ⟨z7,hz7,rfl,hr7,ht7⟩
     have HF:=hide (HTC.out.trans (Ty.tf ht7))
     clear hr7 ht7
     have ew1:IntKind.i64.wrap (8000 - (s'.size:Int))=8000 - (s'.size:Int):=by rw [IntKind.wrap_i64];omega
     have ew2:IntKind.i64.wrap (8000 - (s'.size:Int)+(z7:Int))=((8000 - s'.size+z7:Nat):Int):=by rw [IntKind.wrap_i64];omega
     have HM:=hide (manyS_any ⟨#[32]⟩ (8000 - s'.size+z7) w7 9000 (by omega) (by omega) (by have:(⟨#[32]⟩:ByteArray).size=1:=rfl;rw [this];omega))
     go_wp2_with fail
     refine HM.out.mono ?_
     rintro e w8 ⟨t,rfl,hts,rfl⟩
     go_wp2
     go_ret
     exact ⟨_,rfl,by rw [sz_add];omega,HF.out⟩
    ·go_upto_region 11 with fail
     go_cut [41] from 35 to 41 (fun v wx=>v = .bool false∧wx=wc)
     case first =>
      by_cases h2:k=2
      ·subst h2
       have hsl:¬ (s'.size:Int) < 8000:=by omega
       go_wp2_with fail
       go_meet
       case rel=>exact ⟨rfl,rfl⟩
      ·have k2:((k:Int) == 2)=false:=by simp;omega
       go_wp2_with fail
       go_meet
       case rel=>exact ⟨rfl,rfl⟩
     case rest =>
      obtain ⟨rfl,rfl⟩:=hcut
      go_wp2_with fail
      refine (Rq.pick HRC.out (by omega) 2 (by omega) (by omega)).mono ?_
      rintro e w7 ⟨z7,hz7,rfl,hr7,ht7⟩
      have HR7:=hide hr7
      have HT7:=hide (HTC.out.trans (Ty.tf ht7))
      clear hr7 ht7
      by_cases h0:z7=0
      ·subst h0
       go_wp2_with fail
       refine (bend_any rb vb n _ s' w7 HR7.out (by omega) (by omega)).mono ?_
       rintro e w8 ⟨s8,rfl,hs8,hr8,ht8⟩
       have HF:=hide (HT7.out.trans (Ty.tf ht8))
       clear hr8 ht8
       go_wp2
       go_ret
       exact ⟨s8,rfl,by omega,HF.out⟩
      ·have z0:((z7:Int) == 0)=false:=by simp;omega
       go_wp2
       go_ret
       exact ⟨s',rfl,by omega,HT7.out⟩
theorem quote_big [Inhabited Bs] (s:ByteArray) (h:s.size≤1001):(⟨(Tr.quote s.data.toList).toArray⟩:ByteArray).size≤4000:=by
 have hf:∀ l:List UInt8,(l.flatMap Tr.qb).length≤3 * l.length:=by
  intro l
  induction l with
  | nil=>simp
  | cons b r ih=>have:=Tr.qb_len b;rw [List.flatMap_cons,List.length_append,List.length_cons];omega
 have e:s.data.toList.length=s.size:=Array.length_toList
 have:=hf s.data.toList
 rw [sz_lit,List.size_toArray]
 unfold Tr.quote
 rw [List.length_cons,List.length_append]
 simp only [List.length_cons,List.length_nil]
 omega
theorem ByV.tf [Inhabited Bs] {w w':World} {v:Value} {m:Nat} (h:ByV w v m) (hb:Below w.heap.size w w'):ByV w' v m:=by
 rcases h with h | ⟨g,o,c,h1,h2,h3,h4,h5⟩
 ·exact .inl h
 ·refine .inr ⟨g,o,c,h1,h2,h3,Nat.lt_of_lt_of_le h4 hb.size,fun i hi=>?_⟩
  obtain ⟨k,hk,hc⟩:=h5 i hi
  exact ⟨k,hk,(hb.cell (p:=⟨g,o+i,none⟩) h4).trans hc⟩
theorem ByV.ty [Inhabited Bs] {w w':World} {v:Value} {m:Nat} (h:ByV w v m) (ht:Ty w w') (hlow:∀ g o c,v = .slice (some ⟨g,o,none⟩) m c→0 < m→g < lowB):ByV w' v m:=by
 rcases h with h | ⟨g,o,c,h1,h2,h3,h4,h5⟩
 ·exact .inl h
 ·refine .inr ⟨g,o,c,h1,h2,h3,Nat.lt_of_lt_of_le h4 ht.size,fun i hi=>?_⟩
  obtain ⟨k,hk,hc⟩:=h5 i hi
  exact ⟨k,hk,(World.cell?_of_block (w:=w) (a:=⟨g,o+i,none⟩) (ht.old g h4 (hlow g o c h1 h2))).trans hc⟩
set_option maxRecDepth 100000 in
set_option maxHeartbeats 8000000 in
theorem drawScan_any [Inhabited Bs] (HDP:∀ (v:Value) (w:World) (m:Nat),ByV w v m→lowB≤w.heap.size→Calls Tryz.prog 11 #[v] w fun e w'=>DSk w e w') (m:Nat) (v:Value) (w:World) (h:ByV w v m) (hB:lowB≤w.heap.size) (hlow:∀ g o c,v = .slice (some ⟨g,o,none⟩) m c→0 < m→g < lowB):Calls Tryz.prog 4 #[v] w fun e w'=>DSk w e w':=by
 have HO:=hide (open_any m v _ h hB)
 have HDP:=hide HDP
 have HBV:=hide h
 have HLW:=hide hlow
 obtain ⟨vp,vl,vc,hv⟩:∃ p l c,v = .slice p l c:=by
  rcases h with ⟨q,c,h,_⟩ | ⟨g,o,c,h,_⟩
  ·exact ⟨_,_,_,h⟩
  ·exact ⟨_,_,_,h⟩
 subst hv
 clear h hlow
 go_enter Tryz.func4,Tryz.ntmps4
 go_wp2_with fail
 refine HO.out.mono ?_
 rintro e w1 ⟨rb,vb,n,rfl,hrb,hr1,b1⟩
 have HR1:Hid (Rq rb vb n 0 w1):=hide ⟨0,Nat.le_refl _,hr1⟩
 have HT1:Hid (Ty w w1):=hide (.of b1)
 clear hr1 b1 HO
 go_wp2_with fail
 refine (Rq.pick HR1.out (by omega) 20 (by omega) (by omega)).mono ?_
 rintro e w2 ⟨k,hk,rfl,hr2,ht2⟩
 have HR2:=hide hr2
 have HT2:=hide (HT1.out.trans ht2)
 clear hr2 ht2 HR1 HT1
 by_cases hk0:k=0
 ·subst hk0
  go_wp2_with fail
  refine (Rq.pick HR2.out (by omega) 2 (by omega) (by omega)).mono ?_
  rintro e w3 ⟨z3,hz3,rfl,hr3,ht3⟩
  have HT3:=hide (HT2.out.trans ht3)
  clear hr3 ht3
  have ew:IntKind.i64.wrap (1000+(z3:Int))=((1000+z3:Nat):Int):=by rw [IntKind.wrap_i64];omega
  have HM:=hide (manyS_any ⟨#[120]⟩ (1000+z3) w3 1001 (by omega) (by omega) (by have:(⟨#[120]⟩:ByteArray).size=1:=rfl;rw [this];omega))
  go_wp2_with fail
  refine HM.out.mono ?_
  rintro e w4 ⟨t,rfl,hts,rfl⟩
  have hqs:=quote_any t w4 (by omega)
  have HQ:=hide hqs
  have hql:=quote_big t hts
  clear hqs
  go_wp2_with fail
  refine HQ.out.mono ?_
  rintro e w5 ⟨rfl,b5⟩
  have HF:=hide (Ty.tf (HT3.out.trans (.of b5)))
  clear b5
  go_wp2
  go_ret
  exact ⟨_,rfl,by omega,HF.out⟩
 ·have k0:((k:Int) == 0)=false:=by simp;omega
  by_cases hk6:k < 6
  ·have k6:(k:Int) < 6:=by omega
   have HP:=hide (HDP.out _ w2 m (ByV.ty HBV.out HT2.out HLW.out) (Nat.le_trans hB HT2.out.size))
   clear HDP
   go_wp2_with fail
   refine HP.out.mono ?_
   rintro e w3 ⟨s3,rfl,hs3,ht3⟩
   have HF:=hide ((Ty.tf HT2.out).trans ht3)
   clear ht3
   go_wp2
   go_ret
   exact ⟨s3,rfl,hs3,HF.out⟩
  ·have k6:¬ (k:Int) < 6:=by omega
   go_wp2_with fail
   refine (Rq.pick HR2.out (by omega) 30 (by omega) (by omega)).mono ?_
   rintro e w3 ⟨z3,hz3,rfl,hr3,ht3⟩
   have HR3:=hide hr3
   have HT3:=hide (HT2.out.trans ht3)
   clear hr3 ht3 HR2 HT2
   go_wp2
   go_loopw [5,6] (fun o t wr=>∃ (j q:Nat) (x:ByteArray),o = .string x∧t = .int .i64 (j:Int)∧j≤30∧x.size+3200 * j≤100000∧q+20 * j≤1000∧Rq rb vb n q wr∧Ty w wr) (fun _ t _=>(intOf t).toNat)
   case atStart=>exact ⟨z3,2,_,rfl,rfl,by omega,by show 0+3200 * z3≤100000;omega,by omega,HR3.out,HT3.out⟩
   case round =>
    obtain ⟨j,q,x,rfl,rfl,hj,hx,hq,hR,hT⟩:=hrel
    have hx1:x.size≤100000:=by omega
    by_cases h0:0 < j
    ·have h0i:(0:Int) < (j:Int):=by omega
     have HP:=hide (piece_any rb vb n q wr hR (by omega))
     have HT:=hide hT
     clear hR hT HR3 HT3
     go_wp2_with fail
     refine HP.out.mono ?_
     rintro e w4 ⟨s4,rfl,hs4,hr4,ht4⟩
     have HR4:=hide hr4
     have HT4:=hide (HT.out.trans ht4)
     clear hr4 ht4 HP HT
     go_wp2_with fail
     refine (Rq.pick HR4.out (by omega) 3 (by omega) (by omega)).mono ?_
     rintro e w5 ⟨z5,hz5,rfl,hr5,ht5⟩
     have HR5:=hide hr5
     have HT5:=hide (HT4.out.trans ht5)
     clear hr5 ht5 HR4 HT4
     have ew:IntKind.i64.wrap ((j:Int) - 1)=((j - 1:Nat):Int):=by rw [IntKind.wrap_i64];omega
     by_cases hz0:0 < z5
     ·have hzi:(0:Int) < (z5:Int):=by omega
      go_wp2
      go_roundw
      case rel=>exact ⟨j - 1,_,_,rfl,by go_num,by omega,by rw [sz_add,sz_add];have e1:(⟨#[32]⟩:ByteArray).size=1:=rfl;omega,by omega,HR5.out,HT5.out⟩
      case measure=>simp [intOf];omega
     ·have hzi:¬ (0:Int) < (z5:Int):=by omega
      go_wp2
      go_roundw
      case rel=>exact ⟨j - 1,_,_,rfl,by go_num,by omega,by rw [sz_add];omega,by omega,HR5.out,HT5.out⟩
      case measure=>simp [intOf];omega
    ·have h0i:¬ (0:Int) < (j:Int):=by omega
     have HF:=hide (Ty.tf hT)
     go_wp2
     go_ret
     exact ⟨x,rfl,by omega,HF.out⟩
theorem Tryz.infoFnC:(Tryz.prog.info? 127).map (fun i=>(i.zero,i.size,i.bytes))=some (some (.agg #[.string ⟨#[]⟩,.slice none 0 0,.int .i64 0,.int .i64 0]),4,56):=by kernel_rfl
theorem Tryz.infoIntC:(Tryz.prog.info? 3).map (fun i=>(i.zero,i.size,i.bytes))=some (some (.int .i64 0),1,8):=by kernel_rfl
theorem FnC.snoc [Inhabited Bs] {w:World} {ys:List Value} {m:Nat} (h:FnC w ys m) (hl:ys.length=m*4) (s:Short) (pv:Value) (ps:List Int) (f z:Int) (hp:w.ownsRow 0 3 1 pv ps.length (ps.map (Value.int .i64))) (hp3:ps.length≤3) (hf0:0≤f) (hf3:f≤3):FnC w (ys++[.string s,pv,.int .i64 f,.int .i64 z]) (m+1):=fun i hi=>by
 by_cases hk:i < m
 ·obtain ⟨s',pv',ps',f',z',h1,h2,h3,h4,h5⟩:=h i hk
  exact ⟨s',pv',ps',f',z',by rw [List.getElem?_append_left (by omega)];exact h1,by rw [List.getElem?_append_left (by omega)];exact h2,by rw [List.getElem?_append_left (by omega)];exact h3,by rw [List.getElem?_append_left (by omega)];exact h4,h5⟩
 ·obtain rfl:i=m:=by omega
  refine ⟨s,pv,ps,f,z,?_,?_,?_,?_,hp,hp3,hf0,hf3⟩
  ·rw [List.getElem?_append_right (by omega),hl,show i*4 - i*4=0 from by omega];rfl
  ·rw [List.getElem?_append_right (by omega),hl,show i*4+1 - i*4=1 from by omega];rfl
  ·rw [List.getElem?_append_right (by omega),hl,show i*4+2 - i*4=2 from by omega];rfl
  ·rw [List.getElem?_append_right (by omega),hl,show i*4+3 - i*4=3 from by omega];rfl
theorem Gn.pushFn [Inhabited Bs] {gb rb:Nat} {vb:Value} {n q k:Nat} {w w':World} (h:Gn gb rb vb n q k w) {v v':Value} (hv:w.cell? ⟨gb,2,none⟩=some v) (hg:w.grownBy w' v.ownBlock) {m':Nat} {ys:List Value} (hx:w'.ownsRow (rb+1) 127 4 v' m' ys) (hs:FnC w' ys m') (hm:m'≤1000):Gn gb rb vb n q k (w'.setCell ⟨gb,2,none⟩ v'):=by
 have hl:=h.lt
 have hup:=h.up
 obtain ⟨v0,m0,ys0,f1,f2,f3,f4⟩:=h.fn
 obtain rfl:v0=v:=by rw [f1] at hv;exact Option.some.inj hv
 have own:∀ b,v0.ownBlock=some b→rb+1≤b∧tyAt w b=some 127:=fun b hb=>⟨(f2.lt b hb).1,row_tyAt f2 hb⟩
 have kt:∀ t,t≠127→∀ q,q < w.heap.size→tyAt w q=some t→w'.heap[q]?=w.heap[q]?:=fun t ht q hq hty=>hg.block q hq (fun e=>by have:=(own q e.symm).2;rw [hty] at this;exact ht (Option.some.inj this))
 have eb:=kt _ (by decide) gb hl h.ty
 have hty:tyAt w' gb=some 103:=(tyAt_block eb).trans h.ty
 have cb:∀ j,j≠2→(w'.setCell ⟨gb,2,none⟩ v').cell? ⟨gb,j,none⟩=w.cell? ⟨gb,j,none⟩:=fun j hj=>(World.cell?_setCell_other _ _ _ _ (fun e=>hj (congrArg Addr.off e).symm)).trans (World.cell?_of_block (a:=⟨gb,j,none⟩) eb)
 have sb:∀ b,b≠gb→(w'.setCell ⟨gb,2,none⟩ v').heap[b]?=w'.heap[b]?:=fun b hb=>Below.heap_setCell _ _ _ _ hb
 have kt2:∀ t,t≠127→t≠103→∀ q,q < w.heap.size→tyAt w q=some t→(w'.setCell ⟨gb,2,none⟩ v').heap[q]?=w.heap[q]?:=fun t h1 h2 q hq hq2=>(sb q (fun e=>by rw [e,h.ty] at hq2;exact h2 (Option.some.inj hq2).symm)).trans (kt t h1 q hq hq2)
 obtain ⟨p,hp,hr⟩:=h.R
 obtain ⟨vn,xs,n1,n2,n3⟩:=h.nm
 obtain ⟨c,hc,h5⟩:=h.ct
 obtain ⟨z,hz,hz1,h6⟩:=h.sz
 exact ⟨⟨p,hp,hr.upto (fun b hb=>(sb b (by omega)).trans (hg.block b (by omega) (fun e=>by have:=(own b e.symm).1;omega)))⟩,hup,by rw [tyAt_set];exact hty,(cb 0 (by decide)).trans h.c0,⟨vn,xs,(cb 1 (by decide)).trans n1,row_tyM n2 (kt2 _ (by decide) (by decide)),n3⟩,⟨v',m',ys,World.cell?_setCell_same _ _ _ ((World.cell?_of_block (a:=⟨gb,2,none⟩) eb).trans f1),row_setC hx (by rw [hty];decide),hm,hs.keep (fun q' _ hq'=>Below.heap_setCell _ _ _ _ (fun e=>by have e':q'=gb:=e;rw [e',hty] at hq';cases hq'))⟩,⟨c,by omega,(cb 3 (by decide)).trans h5⟩,⟨z,by omega,hz1,(cb 4 (by decide)).trans h6⟩,fun j=>by rw [World.frozen?_setCell];exact (World.frozen?_of_block (a:=⟨gb,j,none⟩) eb).trans (h.fr j),h.km⟩
section
variable {P:Program} {ops:Array Oper} {Q:Exit→Act→World→Prop} {md:Region.Mode}
theorem mem_readyI [Inhabited Bs] {l:Array Bool} {i:Nat} (h:i∈Region.ready md ops l):∃ o,ops[i]?=some o∧l[i]?=some false∧∀ e∈o.after,Region.binds md e=true→l[e.on]?=some true:=by
 unfold Region.ready at h
 rw [List.mem_filter,List.mem_range] at h
 obtain ⟨h1,h2⟩:=h
 have ho:ops[i]?=some ops[i]:=Array.getElem?_eq_getElem h1
 rw [ho] at h2
 simp only [Option.map_some,Option.getD_some,Bool.and_eq_true,Bool.not_eq_true',Array.all_eq_true'] at h2
 refine ⟨_,ho,?_,fun e he hb=>?_⟩
 ·have:=h2.1
  rw [Array.getD_eq_getD_getElem?] at this
  cases hl:l[i]? with
  | none=>rw [hl] at this;cases this
  | some b=>rw [hl] at this;simp only [Option.getD_some] at this;rw [this]
 ·have:=h2.2 e he
  rw [hb] at this
  simp only [Bool.not_true,Bool.false_or] at this
  rw [Array.getD_eq_getD_getElem?] at this
  cases hl:l[e.on]? with
  | none=>rw [hl] at this;cases this
  | some b=>rw [hl] at this;simp only [Option.getD_some] at this;rw [this]
theorem ready_memI [Inhabited Bs] {l:Array Bool} {i:Nat} {o:Oper} (ho:ops[i]?=some o) (hl:l[i]?=some false) (hd:∀ e∈o.after,l[e.on]?=some true):i∈Region.ready md ops l:=by
 unfold Region.ready
 rw [List.mem_filter,List.mem_range]
 refine ⟨(Array.getElem?_eq_some_iff.1 ho).1,?_⟩
 rw [ho,Array.getD_eq_getD_getElem?,hl]
 simp only [Option.map_some,Option.getD_some,Bool.not_false,Bool.true_and,Array.all_eq_true']
 intro e he
 rw [Array.getD_eq_getD_getElem?,hd e he]
 simp
theorem wpAny_inv [Inhabited Bs] (Inv:Array Bool→Act→World→Prop)
  (hs:∀ l a w,Inv l a w→∀ i∈Region.ready md ops l,wpOp P ops Q i (fun a' w'=>Inv (l.setIfInBounds i true) a' w') a w)
  (hf:∀ l a w,Inv l a w→Region.ready md ops l=[]→Q .normal a w) :
  ∀ fuel l a w,l.toList.count false≤fuel→Inv l a w→wpAny P md ops Q fuel l a w:=by
 intro fuel
 induction fuel with
 | zero =>
  intro l a w hc hI
  have hr:Region.ready md ops l=[]:=by
   rw [List.eq_nil_iff_forall_not_mem]
   intro i hi
   obtain ⟨o,_,h2,_⟩:=mem_readyI hi
   have:false∈l.toList:=by rw [Array.mem_toList_iff];exact Array.mem_of_getElem? h2
   have:=List.count_pos_iff.2 this
   omega
  exact ⟨hr,hf l a w hI hr⟩
 | succ fuel ih =>
  intro l a w hc hI
  refine ⟨hf l a w hI,fun i hi=>wpOp_mono (fun a' w' h=>ih _ _ _ ?_ h) (hs l a w hI i hi)⟩
  obtain ⟨o,_,h2,_⟩:=mem_readyI hi
  obtain ⟨hlt,h3⟩:=Array.getElem?_eq_some_iff.1 h2
  have hm:false∈l.toList:=by rw [Array.mem_toList_iff];exact Array.mem_of_getElem? h2
  have hp:=List.count_pos_iff.2 hm
  rw [Array.toList_setIfInBounds,List.count_set (by simpa using hlt)]
  simp only [Array.getElem_toList,h3,beq_self_eq_true,if_true,show (true == false)=false from rfl,Bool.false_eq_true,if_false]
  omega
theorem wpOp_of [Inhabited Bs] {i:Nat} {o:Oper} {a:Act} {w:World} {K:Act→World→Prop} (ho:ops[i]?=some o) (h:if Region.wanted o (yielded ops a.tmps)=true then Oper.wp P o a w K Q else K (a.put o.dst undef) w):wpOp P ops Q i K a w:=by
 unfold wpOp
 rw [ho]
 simp only
 split
 ·rename_i hw;rw [if_pos hw] at h;exact .inl h
 ·rename_i hw;rw [if_neg hw] at h;exact h
theorem ready_full [Inhabited Bs] {l:Array Bool} (hr:Region.ready md ops l=[]) (hl:l.size=ops.size) (hd:∀ (i:Nat) (o:Oper),ops[i]?=some o→∀ e∈o.after,e.on < i):∀ i,i < ops.size→l[i]?=some true:=by
 intro i
 induction i using Nat.strongRecOn with
 | ind i ih =>
  intro hi
  have ho:ops[i]?=some ops[i]:=Array.getElem?_eq_getElem hi
  have hb:l[i]?=some l[i]:=Array.getElem?_eq_getElem (by omega)
  cases hc:l[i] with
  | true=>rw [hb,hc]
  | false =>
   exfalso
   have hm:i∈Region.ready md ops l:=ready_memI ho (by rw [hb,hc]) (fun e he=>by
    have h1:=hd i _ ho e he
    exact ih _ h1 (by omega))
   rw [hr] at hm
   cases hm
def Down (md:Region.Mode) (ops:Array Oper) (l:Array Bool):Prop:=∀ (j:Nat) (o:Oper),ops[j]?=some o→l[j]?=some true→∀ e∈o.after,Region.binds md e=true→l[e.on]?=some true
theorem set_keep [Inhabited Bs] {l:Array Bool} {i j:Nat} (h:l[j]?=some true):(l.setIfInBounds i true)[j]?=some true:=by
 rw [Array.getElem?_setIfInBounds]
 split
 ·rename_i e
  subst e
  rw [if_pos (Array.getElem?_eq_some_iff.1 h).1]
 ·exact h
theorem set_other [Inhabited Bs] {l:Array Bool} {i j:Nat} (h:i≠j):(l.setIfInBounds i true)[j]?=l[j]?:=by rw [Array.getElem?_setIfInBounds,if_neg h]
theorem set_here [Inhabited Bs] {l:Array Bool} {i:Nat} (h:l[i]?=some false):(l.setIfInBounds i true)[i]?=some true:=by rw [Array.getElem?_setIfInBounds,if_pos rfl,if_pos (Array.getElem?_eq_some_iff.1 h).1]
theorem Down.step [Inhabited Bs] {l:Array Bool} {i:Nat} (h:Down md ops l) (hi:i∈Region.ready md ops l):Down md ops (l.setIfInBounds i true):=fun j o ho hl e he hb=>by
 by_cases hj:i=j
 ·subst hj
  obtain ⟨o',ho',_,h3⟩:=mem_readyI hi
  rw [ho] at ho'
  obtain rfl:=Option.some.inj ho'
  exact set_keep (h3 e he hb)
 ·rw [set_other hj] at hl
  exact set_keep (h j o ho hl e he hb)
theorem Down.all [Inhabited Bs] {l:Array Bool} {m:Nat} (h:Down md ops l) (hc:∀ j,j < m→∃ (j':Nat) (o:Oper),j < j'∧j'≤m∧ops[j']?=some o∧∃ e∈o.after,Region.binds md e=true∧e.on=j) (hm:l[m]?=some true):∀ d j,j+d=m→l[j]?=some true:=by
 intro d
 induction d using Nat.strongRecOn with
 | ind d ih =>
  intro j hj
  rcases Nat.eq_zero_or_pos d with rfl | hd
  ·rw [show j=m by omega];exact hm
  ·obtain ⟨j',o,h1,h2,h3,e,he,hb,rfl⟩:=hc j (by omega)
   exact h j' o h3 (ih (m - j') (by omega) j' (by omega)) e he hb
def depsB (ops:Array Oper):Bool:=(List.range ops.size).all fun i=>((ops[i]?).map fun o=>o.after.all fun e=>decide (e.on < i)).getD true
theorem depsB_at [Inhabited Bs] (h:depsB ops=true):∀ (i:Nat) (o:Oper),ops[i]?=some o→∀ e∈o.after,e.on < i:=fun i o ho e he=>by
 have h1:=List.all_eq_true.1 h i (List.mem_range.2 (Array.getElem?_eq_some_iff.1 ho).1)
 rw [ho] at h1
 simp only [Option.map_some,Option.getD_some,Array.all_eq_true',decide_eq_true_eq] at h1
 exact h1 e he
def upB (md:Region.Mode) (ops:Array Oper) (m:Nat):Bool:=(List.range m).all fun j=>(List.range (m+1)).any fun k=>decide (j < k) && ((ops[k]?).map fun o=>o.after.any fun e=>Region.binds md e && e.on == j).getD false
theorem upB_at [Inhabited Bs] {m:Nat} (h:upB md ops m=true):∀ j,j < m→∃ (j':Nat) (o:Oper),j < j'∧j'≤m∧ops[j']?=some o∧∃ e∈o.after,Region.binds md e=true∧e.on=j:=fun j hj=>by
 have h1:=List.all_eq_true.1 h j (List.mem_range.2 hj)
 obtain ⟨k,hk,h2⟩:=List.any_eq_true.1 h1
 rw [List.mem_range] at hk
 simp only [Bool.and_eq_true,decide_eq_true_eq] at h2
 cases ho:ops[k]? with
 | none=>rw [ho] at h2;exact absurd h2.2 (by simp)
 | some o =>
  rw [ho] at h2
  have h3:=h2.2
  simp only [Option.map_some,Option.getD_some,Array.any_eq_true'] at h3
  obtain ⟨e,he,h4⟩:=h3
  simp only [Bool.and_eq_true,beq_iff_eq] at h4
  exact ⟨k,o,h2.1,by omega,ho,e,he,h4.1,h4.2⟩
def IsOp (ops:Array Oper) (i:Nat) (d:Nat) (op:Op):Prop:=∃ o,ops[i]?=some o∧o.dst=some d∧o.op=op∧o.guard=none
def onB (md:Region.Mode) (ops:Array Oper) (i j:Nat):Bool:=((ops[i]?).map fun o=>o.after.any fun e=>Region.binds md e && e.on == j).getD false
theorem onB_at [Inhabited Bs] {i j:Nat} {l:Array Bool} (h:onB md ops i j=true) (hi:i∈Region.ready md ops l):l[j]?=some true:=by
 obtain ⟨o,ho,_,h3⟩:=mem_readyI hi
 unfold onB at h
 rw [ho] at h
 simp only [Option.map_some,Option.getD_some,Array.any_eq_true'] at h
 obtain ⟨e,he,h4⟩:=h
 simp only [Bool.and_eq_true,beq_iff_eq] at h4
 rw [← h4.2]
 exact h3 e he h4.1
theorem step_val [Inhabited Bs] {o:Oper} {a:Act} {w:World} {K:Act→World→Prop} {E:Prop} {v:Value} {w':World} (hg:o.guard=none) (h:(execOp a.eval o).run P w = .ok (.value v) w') (hK:K (a.put o.dst v) w'):if Region.wanted o (yielded ops a.tmps)=true then Oper.wp P o a w K Q else E:=by
 rw [if_pos (by simp [Region.wanted,hg])]
 unfold Oper.wp
 rw [h]
 exact hK
end
theorem eval_same [Inhabited Bs] {a:Act} {t:Nat} {v:Value} (h:t < a.tmps.size):(a.put (some t) v).eval (.tmp t)=v:=by
 simp [Act.put,Act.eval,h]
theorem eval_other [Inhabited Bs] {a:Act} {t t':Nat} {v:Value} (h:t≠t'):(a.put (some t) v).eval (.tmp t')=a.eval (.tmp t'):=by
 simp [Act.put,Act.eval,h]
end Go.Proofs.YtbckhbeebngjfaaGreatDoor
