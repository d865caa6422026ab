/- Tke, Tkf, Tkg, Tkh. -/
import Derived.Test.YtbckhbeebngjfaaGreatDoorT28
import Derived.Test.YtbckhbeebngjfaaGreatDoorT33
import Derived.Test.YtbckhbeebngjfaaGreatDoorT34
import Derived.Test.YtbckhbeebngjfaaGreatDoorT01
import Derived.Test.YtbckhbeebngjfaaGreatDoorT32
import Derived.Test.YtbckhbeebngjfaaGreatDoorT17
import Derived.Test.YtbckhbeebngjfaaGreatDoorT03
namespace Go.Proofs.YtbckhbeebngjfaaGreatDoor
open Go.RowKit
set_option maxRecDepth 100000 in
set_option maxHeartbeats 1000000 in
theorem manyS_any [Inhabited Bs] (s:ByteArray) (n:Nat) (w:World) (m:Nat) (hn9:n≤1000000) (hm:m≤1000000) (hs:s.size * n≤m) :
  Calls Tryz.prog 10 #[.string s,.int .i64 (n:Int)] w fun e w'=>∃ t:ByteArray,e = .returned (.string t)∧t.size≤m∧w'=w:=by
 go_enter Tryz.func10,Tryz.ntmps10
 go_wp2
 go_loop [0,1,5] (fun a t o=>∃ (j:Nat) (x y:ByteArray),j≤n∧a = .string x∧t = .int .i64 (j:Int)∧o = .string y∧y.size+x.size * j≤m) (fun _ t _=>(intOf t).toNat)
 case atStart=>exact ⟨n,s,_,Nat.le_refl _,rfl,rfl,rfl,by show 0+s.size * n≤m;omega⟩
 case round =>
  obtain ⟨j,x,y,hj,rfl,rfl,rfl,hb⟩:=hrel
  by_cases h0:0 < j
  ·have hxj:x.size≤x.size * j:=Nat.le_mul_of_pos_right _ h0
   have hx1:x.size≤1000000:=by omega
   have hy1:y.size≤1000000:=by omega
   have HB:=hide hb
   clear hb hxj
   by_cases h1:j % 2=1
   ·have HH:=hide (half_odd x.size y.size j h1)
    have e1:(j:Int) % 2=1:=by omega
    go_wp2
    go_round
    case rel=>exact ⟨j / 2,_,_,by omega,rfl,by go_num,rfl,by rw [ByteArray.size_append,ByteArray.size_append,HH.out];exact HB.out⟩
    case measure=>simp [intOf];omega
   ·have HH:=hide (half_even x.size j h1)
    have e1:((j:Int) % 2 == 1)=false:=by simp;omega
    go_wp2
    go_round
    case rel=>exact ⟨j / 2,_,_,by omega,rfl,by go_num,rfl,by rw [ByteArray.size_append,HH.out];exact HB.out⟩
    case measure=>simp [intOf];omega
  ·go_wp2
   go_ret
   exact ⟨y,rfl,by omega,rfl⟩
def TextPostS [Inhabited Bs] (rb:Nat) (vb:Value) (n p:Nat) (w:World) (e:Ending) (w':World):Prop:=∃ (t:ByteArray) (q:Nat),e = .returned (.string t)∧t.size≤1000∧q≤p+7∧Rd w' rb vb n q∧Dr rb w w'
set_option maxRecDepth 100000 in
set_option maxHeartbeats 2000000 in
theorem drawTextS_any [Inhabited Bs] (rb n p:Nat) (vb:Value) (w:World) (h:Rd w rb vb n p) (hp:p≤999999000) :
  Calls Tryz.prog 22 #[.pointer (some ⟨rb,0,none⟩)] w fun e w'=>TextPostS rb vb n p w e w':=by
 have HP:=hide (fun p w (h:Rd w rb vb n p) (hp:p≤1000000000) m (h1:1≤m) (h2:m≤1000000)=>pick_any rb n p vb m w h hp h1 h2)
 have HR:=hide h
 clear h
 go_enter Tryz.func22,Tryz.ntmps22
 go_wp2_with fail
 refine (HP.out p _ HR.out (by omega) 10 (by omega) (by omega)).mono ?_
 rintro e w1 ⟨z,hz,rfl,R1,D1⟩
 have HR1:=hide R1
 have HD1:=hide D1
 clear R1 D1 HR
 go_wp2_with fail
 all_goals first
  | (go_ret;exact ⟨_,p+1,rfl,by exact Nat.le_of_ble_eq_true rfl,by omega,HR1.out,HD1.out⟩)
  | skip
 refine (HP.out (p+1) _ HR1.out (by omega) 4 (by omega) (by omega)).mono ?_
 rintro e w2 ⟨z2,hz2,rfl,R2,D2⟩
 have HR2:=hide R2
 have HD2:=hide (HD1.out.trans D2)
 clear R2 D2 HR1 HD1
 go_wp2_with fail
 go_loopw [3,4] (fun o t wr=>∃ (j q:Nat) (x:ByteArray),o = .string x∧t = .int .i64 ((j:Int) - 1)∧x.size+j≤5∧j≤z2+1∧q+j≤p+3+z2∧Rd wr rb vb n q∧Dr rb w wr) (fun _ t _=>(intOf t+1).toNat)
 case atStart=>exact ⟨z2+1,p+1+1,_,rfl,by congr 1;omega,by show 0+(z2+1)≤5;omega,by omega,by omega,HR2.out,HD2.out⟩
 case round =>
  obtain ⟨j,q,x,rfl,rfl,hxj,hj,hq,hR,hD⟩:=hrel
  have hx5:x.size≤5:=by omega
  have HR3:=hide hR
  have HD3:=hide hD
  clear hR hD
  by_cases h0:1≤j
  ·have h1:(0:Int)≤(j:Int) - 1:=by omega
   go_wp2_with fail
   refine (HP.out q _ HR3.out (by omega) 4 (by omega) (by omega)).mono ?_
   rintro e w4 ⟨z4,hz4,rfl,R4,D4⟩
   have HR4:=hide R4
   have HD4:=hide (HD3.out.trans D4)
   clear R4 D4 HR3 HD3
   have h4:z4=0∨z4=1∨z4=2∨z4=3:=by omega
   rcases h4 with rfl | rfl | rfl | rfl
   all_goals
    go_wp2
    go_roundw
    case rel=>exact ⟨j - 1,q+1,_,rfl,by congr 1;omega,by rw [ByteArray.size_append];show x.size+1+(j - 1)≤5;omega,by omega,by omega,HR4.out,HD4.out⟩
    case measure=>simp [intOf];omega
  ·have h1:¬ (0:Int)≤(j:Int) - 1:=by omega
   go_wp2
   go_ret
   exact ⟨x,q,rfl,by omega,by omega,HR3.out,HD3.out⟩
def Txt [Inhabited Bs] (rb:Nat) (vb:Value) (n q d m:Nat) (w:World) (e:Ending) (w':World):Prop:=∃ s:ByteArray,e = .returned (.string s)∧s.size≤m∧Rq rb vb n (q+d) w'∧Ty w w'
theorem Rq.text [Inhabited Bs] {rb:Nat} {vb:Value} {n q:Nat} {w:World} (h:Rq rb vb n q w) (hq:q≤900000000):Calls Tryz.prog 22 #[.pointer (some ⟨rb,0,none⟩)] w fun e w'=>Txt rb vb n q 7 1000 w e w':=by
 obtain ⟨p,hp,hr⟩:=h
 refine (drawTextS_any rb n p vb w hr (by omega)).mono ?_
 rintro e w1 ⟨t,p',rfl,ht,hp',hr1,hd⟩
 exact ⟨t,rfl,ht,⟨p',by omega,hr1⟩,.dr hd hr.own⟩
theorem strs_at [Inhabited Bs] (xs:List ByteArray) (m z:Nat) (h:∀ x∈xs,x.size≤m) (hz:z < xs.length):∃ s,(xs.map Value.string)[z]?=some (.string s)∧s.size≤m :=
 ⟨xs[z],by rw [List.getElem?_map,List.getElem?_eq_getElem hz];rfl,h _ (List.getElem_mem hz)⟩
def pcNums:List ByteArray:=[⟨#[48]⟩,⟨#[48,48]⟩,⟨#[48,49]⟩,⟨#[57,50,50,51,51,55,50,48,51,54,56,53,52,55,55,53,56,48,55]⟩,⟨#[57,50,50,51,51,55,50,48,51,54,56,53,52,55,55,53,56,48,56]⟩,⟨#[57,57,57,57,57,57,57,57,57,57,57,57,57,57,57,57,57,57,57,57]⟩,⟨#[49,50,120]⟩,⟨#[49,95]⟩,⟨#[55]⟩]
def pcBad:List ByteArray:=[⟨#[34,92,52,49,34]⟩,⟨#[34]⟩,⟨#[34,92,52,34]⟩,⟨#[34,92,52,65,34]⟩,⟨#[34,92,65,52,34]⟩,⟨#[34,92,71,71,34]⟩,⟨#[34,97,10,98,34]⟩,⟨#[34,127,34]⟩]
def pcGaps:List ByteArray:=[⟨#[32]⟩,⟨#[10]⟩,⟨#[35,32,103,97,112,32,40,32,34,10]⟩,⟨#[35]⟩,⟨#[9]⟩,⟨#[64]⟩,⟨#[95,97]⟩,⟨#[65]⟩,⟨#[33]⟩]
def pcWords:List ByteArray:=Sc.words.map fun l=>⟨l.toArray⟩
def pcMarks:List ByteArray:=Sc.marks.map fun l=>⟨l.toArray⟩
theorem pcNums_le [Inhabited Bs]:∀ x∈pcNums,x.size≤100:=by decide
theorem pcBad_le [Inhabited Bs]:∀ x∈pcBad,x.size≤100:=by decide
theorem pcGaps_le [Inhabited Bs]:∀ x∈pcGaps,x.size≤100:=by decide
theorem pcWords_le [Inhabited Bs]:∀ x∈pcWords,x.size≤100:=by decide
theorem pcMarks_le [Inhabited Bs]:∀ x∈pcMarks,x.size≤100:=by decide
set_option maxRecDepth 100000 in
theorem wordsR_any [Inhabited Bs] (w:World):Calls Tryz.prog 21 #[] w fun e w'=>e = .returned (.slice (some ⟨w.heap.size,0,none⟩) 17 17)∧w'.ownsRow 0 9 1 (.slice (some ⟨w.heap.size,0,none⟩) 17 17) 17 (pcWords.map Value.string)∧Below w.heap.size w w':=by
 have HL:=hide (World.ownsRow_lit (base:=0) (e:=9) (size:=1) w (pcWords.map Value.string).toArray 17 (Nat.zero_le _) (by unfold maxLen;omega) rfl)
 go_enter Tryz.func21,Tryz.ntmps21
 go_wp2
 go_ret
 exact ⟨rfl,HL.out,bA _⟩
set_option maxRecDepth 100000 in
theorem marksR_any [Inhabited Bs] (w:World):Calls Tryz.prog 23 #[] w fun e w'=>e = .returned (.slice (some ⟨w.heap.size,0,none⟩) 23 23)∧w'.ownsRow 0 9 1 (.slice (some ⟨w.heap.size,0,none⟩) 23 23) 23 (pcMarks.map Value.string)∧Below w.heap.size w w':=by
 have HL:=hide (World.ownsRow_lit (base:=0) (e:=9) (size:=1) w (pcMarks.map Value.string).toArray 23 (Nat.zero_le _) (by unfold maxLen;omega) rfl)
 go_enter Tryz.func23,Tryz.ntmps23
 go_wp2
 go_ret
 exact ⟨rfl,HL.out,bA _⟩
set_option maxRecDepth 100000 in
set_option maxHeartbeats 4000000 in
theorem piece_any [Inhabited Bs] (rb:Nat) (vb:Value) (n q:Nat) (w:World) (h:Rq rb vb n q w) (hq:q≤800000000):Calls Tryz.prog 12 #[.pointer (some ⟨rb,0,none⟩)] w fun e w'=>Txt rb vb n q 10 3100 w e w':=by
 have HR:=hide h
 clear h
 go_enter Tryz.func12,Tryz.ntmps12
 go_wp2_with fail
 refine (Rq.pick HR.out (by omega) 12 (by omega) (by omega)).mono ?_
 rintro e w1 ⟨z,hz,rfl,hr1,ht1⟩
 have HR1:=hide hr1
 have HT1:=hide ht1
 clear hr1 ht1 HR
 have hzc:z=0∨(z=1∨z=2)∨z=3∨z=4∨z=5∨z=6∨z=7∨8≤z:=by omega
 rcases hzc with rfl | hz12 | rfl | rfl | rfl | rfl | rfl | h8
 ·go_wp2_with fail
  refine (Rq.pick HR1.out (by omega) 3 (by omega) (by omega)).mono ?_
  rintro e w2 ⟨z2,hz2,rfl,hr2,ht2⟩
  have HR2:=hide hr2
  have HT2:=hide (HT1.out.trans ht2)
  have HD:=hide (dec_any z2 w2 (by omega))
  have hds:=dec_size z2 (by omega)
  clear hr2 ht2
  generalize (⟨(Tr.dec z2).toArray⟩:ByteArray)=D at *
  go_wp2_with fail
  refine HD.out.mono ?_
  rintro e w3 ⟨rfl,b3⟩
  have HF:=hide (HT2.out.trans (.of b3))
  have HRF:=hide (HR2.out.below b3)
  clear b3
  go_wp2
  go_ret
  exact ⟨_,rfl,by rw [sz_add];have:(⟨#[110,97,109,101]⟩:ByteArray).size=4:=rfl;omega,HRF.out.mono (by omega),HF.out⟩
 ·rcases hz12 with rfl | rfl
  ·go_wp2_with fail
   refine (wordsR_any w1).mono ?_
   rintro e w2 ⟨rfl,hl2,b2⟩
   have HL:=hide hl2
   have HR2:=hide (HR1.out.below b2)
   have HT2:=hide (HT1.out.trans (.of b2))
   clear hl2 b2
   go_wp2_with fail
   refine (Rq.pick HR2.out (by omega) 17 (by omega) (by omega)).mono ?_
   rintro e w3 ⟨z3,hz3,rfl,hr3,ht3⟩
   obtain ⟨s,hs,hsz⟩:=strs_at pcWords 100 z3 pcWords_le (by show z3 < 17;omega)
   have cl:=row_cellsC (row_ty HL.out ht3 (by unfold Mine;simp)) hs
   have HF:=hide (HT2.out.trans ht3)
   have HRF:=hide hr3
   clear ht3 hr3 HL
   go_wp2
   go_ret
   exact ⟨s,rfl,by omega,HRF.out.mono (by omega),HF.out⟩
  ·go_wp2_with fail
   refine (wordsR_any w1).mono ?_
   rintro e w2 ⟨rfl,hl2,b2⟩
   have HL:=hide hl2
   have HR2:=hide (HR1.out.below b2)
   have HT2:=hide (HT1.out.trans (.of b2))
   clear hl2 b2
   go_wp2_with fail
   refine (Rq.pick HR2.out (by omega) 17 (by omega) (by omega)).mono ?_
   rintro e w3 ⟨z3,hz3,rfl,hr3,ht3⟩
   obtain ⟨s,hs,hsz⟩:=strs_at pcWords 100 z3 pcWords_le (by show z3 < 17;omega)
   have cl:=row_cellsC (row_ty HL.out ht3 (by unfold Mine;simp)) hs
   have HF:=hide (HT2.out.trans ht3)
   have HRF:=hide hr3
   clear ht3 hr3 HL
   go_wp2
   go_ret
   exact ⟨s,rfl,by omega,HRF.out.mono (by omega),HF.out⟩
 ·have HL:=hide (World.ownsRow_lit (base:=0) (e:=9) (size:=1) w1 (pcNums.map Value.string).toArray 9 (Nat.zero_le _) (by unfold maxLen;omega) rfl)
  have b2:Below w1.heap.size w1 (w1.alloc (.cells (pcNums.map Value.string).toArray 9)):=bA _
  have HR2:=hide (HR1.out.below b2)
  have HT2:=hide (HT1.out.trans (.of b2))
  clear b2
  simp only [pcNums,List.map_cons,List.map_nil] at HL HR2 HT2
  go_wp2_with fail
  refine (Rq.pick HR2.out (by omega) 9 (by omega) (by omega)).mono ?_
  rintro e w3 ⟨z3,hz3,rfl,hr3,ht3⟩
  obtain ⟨s,hs,hsz⟩:=strs_at pcNums 100 z3 pcNums_le (by show z3 < 9;omega)
  have cl:=row_cellsC (row_ty HL.out ht3 (by unfold Mine;simp)) hs
  have HF:=hide (HT2.out.trans ht3)
  have HRF:=hide hr3
  clear ht3 hr3 HL
  go_wp2
  go_ret
  exact ⟨s,rfl,by omega,HRF.out.mono (by omega),HF.out⟩
 ·go_wp2_with fail
  refine (Rq.text HR1.out (by omega)).mono ?_
  rintro e w2 ⟨t,rfl,hts,hr2,ht2⟩
  have HR2:=hide hr2
  have HT2:=hide (HT1.out.trans ht2)
  clear hr2 ht2
  have hqs:=quote_size3 t hts
  go_wp2_with fail
  refine (quote_any t w2 (by omega)).mono ?_
  rintro e w3 ⟨rfl,b3⟩
  have HF:=hide (HT2.out.trans (.of b3))
  have HRF:=hide (HR2.out.below b3)
  clear b3
  go_wp2
  go_ret
  exact ⟨_,rfl,by omega,HRF.out.mono (by omega),HF.out⟩
 ·have HL:=hide (World.ownsRow_lit (base:=0) (e:=9) (size:=1) w1 (pcBad.map Value.string).toArray 8 (Nat.zero_le _) (by unfold maxLen;omega) rfl)
  have b2:Below w1.heap.size w1 (w1.alloc (.cells (pcBad.map Value.string).toArray 9)):=bA _
  have HR2:=hide (HR1.out.below b2)
  have HT2:=hide (HT1.out.trans (.of b2))
  clear b2
  simp only [pcBad,List.map_cons,List.map_nil] at HL HR2 HT2
  go_wp2_with fail
  refine (Rq.pick HR2.out (by omega) 8 (by omega) (by omega)).mono ?_
  rintro e w3 ⟨z3,hz3,rfl,hr3,ht3⟩
  obtain ⟨s,hs,hsz⟩:=strs_at pcBad 100 z3 pcBad_le (by show z3 < 8;omega)
  have cl:=row_cellsC (row_ty HL.out ht3 (by unfold Mine;simp)) hs
  have HF:=hide (HT2.out.trans ht3)
  have HRF:=hide hr3
  clear ht3 hr3 HL
  go_wp2
  go_ret
  exact ⟨s,rfl,by omega,HRF.out.mono (by omega),HF.out⟩
 ·have HL:=hide (World.ownsRow_lit (base:=0) (e:=9) (size:=1) w1 (pcGaps.map Value.string).toArray 9 (Nat.zero_le _) (by unfold maxLen;omega) rfl)
  have b2:Below w1.heap.size w1 (w1.alloc (.cells (pcGaps.map Value.string).toArray 9)):=bA _
  have HR2:=hide (HR1.out.below b2)
  have HT2:=hide (HT1.out.trans (.of b2))
  clear b2
  simp only [pcGaps,List.map_cons,List.map_nil] at HL HR2 HT2
  go_wp2_with fail
  refine (Rq.pick HR2.out (by omega) 9 (by omega) (by omega)).mono ?_
  rintro e w3 ⟨z3,hz3,rfl,hr3,ht3⟩
  obtain ⟨s,hs,hsz⟩:=strs_at pcGaps 100 z3 pcGaps_le (by show z3 < 9;omega)
  have cl:=row_cellsC (row_ty HL.out ht3 (by unfold Mine;simp)) hs
  have HF:=hide (HT2.out.trans ht3)
  have HRF:=hide hr3
  clear ht3 hr3 HL
  go_wp2
  go_ret
  exact ⟨s,rfl,by omega,HRF.out.mono (by omega),HF.out⟩
 ·go_wp2_with fail
  refine (Rq.pick HR1.out (by omega) 2 (by omega) (by omega)).mono ?_
  rintro e w2 ⟨z2,hz2,rfl,hr2,ht2⟩
  have HRF:=hide hr2
  have HF:=hide (HT1.out.trans ht2)
  clear hr2 ht2
  have ew:IntKind.i64.wrap (30+(z2:Int))=((30+z2:Nat):Int):=by rw [IntKind.wrap_i64];omega
  have HM:=hide (manyS_any ⟨#[110]⟩ (30+z2) w2 100 (by omega) (by omega) (by have:(⟨#[110]⟩:ByteArray).size=1:=rfl;rw [this];omega))
  go_wp2_with fail
  refine HM.out.mono ?_
  rintro e w3 ⟨t,rfl,hts,rfl⟩
  go_wp2
  go_ret
  exact ⟨_,rfl,by omega,HRF.out.mono (by omega),HF.out⟩
 ·have a0:((z:Int) == 0)=false:=by simp;omega
  have a1:((z:Int) == 1)=false:=by simp;omega
  have a2:((z:Int) == 2)=false:=by simp;omega
  have a3:((z:Int) == 3)=false:=by simp;omega
  have a4:((z:Int) == 4)=false:=by simp;omega
  have a5:((z:Int) == 5)=false:=by simp;omega
  have a6:((z:Int) == 6)=false:=by simp;omega
  have a7:((z:Int) == 7)=false:=by simp;omega
  go_wp2_with fail
  refine (marksR_any w1).mono ?_
  rintro e w2 ⟨rfl,hl2,b2⟩
  have HL:=hide hl2
  have HR2:=hide (HR1.out.below b2)
  have HT2:=hide (HT1.out.trans (.of b2))
  clear hl2 b2
  go_wp2_with fail
  refine (Rq.pick HR2.out (by omega) 23 (by omega) (by omega)).mono ?_
  rintro e w3 ⟨z3,hz3,rfl,hr3,ht3⟩
  obtain ⟨s,hs,hsz⟩:=strs_at pcMarks 100 z3 pcMarks_le (by show z3 < 23;omega)
  have cl:=row_cellsC (row_ty HL.out ht3 (by unfold Mine;simp)) hs
  have HF:=hide (HT2.out.trans ht3)
  have HRF:=hide hr3
  clear ht3 hr3 HL
  go_wp2
  go_ret
  exact ⟨s,rfl,by omega,HRF.out.mono (by omega),HF.out⟩
theorem bend_at [Inhabited Bs] (z L:Nat) (hz:z < 256) (hL:L≤400000):∃ m i:Nat,(z:Int)*((L:Int)+1)=(m:Int)∧i=m / 256∧i≤L∧m≤110000000:=by
 refine ⟨z*(L+1),z*(L+1) / 256,by push_cast;rfl,rfl,?_,?_⟩
 ·have h:z*(L+1)≤255*(L+1):=Nat.mul_le_mul_right _ (by omega)
  omega
 ·have h:z*(L+1)≤255*(L+1):=Nat.mul_le_mul_right _ (by omega)
  omega
def bdMarks:List ByteArray:=[⟨#[32]⟩,⟨#[10]⟩,⟨#[34]⟩,⟨#[92]⟩,⟨#[48]⟩,⟨#[120]⟩,⟨#[40]⟩,⟨#[41]⟩,⟨#[59]⟩,⟨#[35]⟩,⟨#[61]⟩,⟨#[61,62]⟩,⟨#[32,105,102,32]⟩,⟨#[32,105,110,32]⟩,⟨#[44]⟩,⟨#[45]⟩]
theorem bdMarks_le [Inhabited Bs]:∀ x∈bdMarks,x.size≤10:=by decide
theorem one_size [Inhabited Bs] (x:Int):(strOfNums [x]).size=1:=by simp [strOfNums,ByteArray.size]
theorem pick_rq [Inhabited Bs] {rb:Nat} {vb:Value} {n q:Nat} {w:World} (h:Rq rb vb n q w) (hq:q≤900000000) (m:Int) (h1:1≤m) (h2:m≤1000000):Calls Tryz.prog 8 #[.pointer (some ⟨rb,0,none⟩),.int .i64 m] w fun e w'=>∃ r,e = .returned r∧∃ z:Nat,(z:Int) < m∧r = .int .i64 (z:Int)∧Rq rb vb n (q+1) w'∧Ty w w':=by
 refine (h.pick hq m h1 h2).mono ?_
 rintro e w1 ⟨z,hz,rfl,a,b⟩
 exact ⟨_,rfl,z,hz,rfl,a,b⟩
theorem ext_size [Inhabited Bs] (s:ByteArray) (a b:Nat):(s.extract a b).size≤s.size:=by
 rw [ByteArray.size_extract];omega
set_option maxRecDepth 100000 in
set_option maxHeartbeats 4000000 in
theorem bend_any [Inhabited Bs] (rb:Nat) (vb:Value) (n q:Nat) (s:ByteArray) (w:World) (h:Rq rb vb n q w) (hq:q≤800000000) (hs:s.size≤400000):Calls Tryz.prog 19 #[.pointer (some ⟨rb,0,none⟩),.string s] w fun e w'=>Txt rb vb n q 10 (2 * s.size+10) w e w':=by
 have HR:=hide h
 clear h
 go_enter Tryz.func19,Tryz.ntmps19
 go_wp2_with fail
 refine (Rq.pick HR.out (by omega) 256 (by omega) (by omega)).mono ?_
 rintro e w1 ⟨z,hz,rfl,hr1,ht1⟩
 have HR1:=hide hr1
 have HT1:=hide ht1
 obtain ⟨m,i,hm,hi,hiL,hm9⟩:=bend_at z s.size (by omega) hs
 have e1:IntKind.i64.wrap ((z:Int)*((s.size:Int)+1))=(m:Int):=by rw [hm,IntKind.wrap_i64];omega
 have e2:(m:Int) / 256=(i:Int):=by omega
 clear hr1 ht1 HR hm hi
 go_wp2_with fail
 refine (Rq.pick HR1.out (by omega) 6 (by omega) (by omega)).mono ?_
 rintro e w2 ⟨z2,hz2,rfl,hr2,ht2⟩
 have HR2:=hide hr2
 have HT2:=hide (HT1.out.trans ht2)
 have x1:=ext_size s 0 i
 have x2:=ext_size s i s.size
 clear hr2 ht2 HR1 HT1
 have hzc:z2=0∨z2=1∨z2=2∨z2=3∨z2=4∨z2=5:=by omega
 rcases hzc with rfl | rfl | rfl | rfl | rfl | rfl
 ·go_wp2
  go_ret
  exact ⟨_,rfl,by omega,HR2.out.mono (by omega),HT2.out⟩
 ·have b3:Below w2.heap.size w2 (w2.alloc (.cells #[.string ⟨#[32]⟩,.string ⟨#[10]⟩,.string ⟨#[34]⟩,.string ⟨#[92]⟩,.string ⟨#[48]⟩,.string ⟨#[120]⟩,.string ⟨#[40]⟩,.string ⟨#[41]⟩,.string ⟨#[59]⟩,.string ⟨#[35]⟩,.string ⟨#[61]⟩,.string ⟨#[61,62]⟩,.string ⟨#[32,105,102,32]⟩,.string ⟨#[32,105,110,32]⟩,.string ⟨#[44]⟩,.string ⟨#[45]⟩] 9)):=bA _
  have HRa:=hide (HR2.out.below b3.drew)
  have HTa:=hide (HT2.out.trans (.of b3.drew))
  have HRd:=hide (HR2.out.below (Below.refl _ _).drew)
  have HTd:=hide (HT2.out.trans (.of (Below.refl _ _).drew))
  have HLa:Hid ((w2.alloc (.cells #[.string ⟨#[32]⟩,.string ⟨#[10]⟩,.string ⟨#[34]⟩,.string ⟨#[92]⟩,.string ⟨#[48]⟩,.string ⟨#[120]⟩,.string ⟨#[40]⟩,.string ⟨#[41]⟩,.string ⟨#[59]⟩,.string ⟨#[35]⟩,.string ⟨#[61]⟩,.string ⟨#[61,62]⟩,.string ⟨#[32,105,102,32]⟩,.string ⟨#[32,105,110,32]⟩,.string ⟨#[44]⟩,.string ⟨#[45]⟩] 9)).drew.ownsRow 0 9 1 (.slice (some ⟨w2.heap.size,0,none⟩) 16 16) 16 (bdMarks.map Value.string)):=hide (World.ownsRow_lit (base:=0) (e:=9) (size:=1) w2 #[.string ⟨#[32]⟩,.string ⟨#[10]⟩,.string ⟨#[34]⟩,.string ⟨#[92]⟩,.string ⟨#[48]⟩,.string ⟨#[120]⟩,.string ⟨#[40]⟩,.string ⟨#[41]⟩,.string ⟨#[59]⟩,.string ⟨#[35]⟩,.string ⟨#[61]⟩,.string ⟨#[61,62]⟩,.string ⟨#[32,105,102,32]⟩,.string ⟨#[32,105,110,32]⟩,.string ⟨#[44]⟩,.string ⟨#[45]⟩] 16 (Nat.zero_le _) (by unfold maxLen;omega) rfl).drew
  have HMS:Hid (¬ Mine (some 9)):=hide (by unfold Mine;simp)
  clear b3
  go_wp2_with fail
  go_region_law (first
   | ((with_reducible refine world_is ((w2.alloc (.cells #[.string ⟨#[32]⟩,.string ⟨#[10]⟩,.string ⟨#[34]⟩,.string ⟨#[92]⟩,.string ⟨#[48]⟩,.string ⟨#[120]⟩,.string ⟨#[40]⟩,.string ⟨#[41]⟩,.string ⟨#[59]⟩,.string ⟨#[35]⟩,.string ⟨#[61]⟩,.string ⟨#[61,62]⟩,.string ⟨#[32,105,102,32]⟩,.string ⟨#[32,105,110,32]⟩,.string ⟨#[44]⟩,.string ⟨#[45]⟩] 9)).drew) ?_);refine step_call2E rfl 8 (.tmp 27) (.const (.int .i64 16)) _ _ rfl (.pointer (some ⟨rb,0,none⟩)) (.int .i64 16) (by first | (simp [Act.eval];done) | simp [Act.eval,Act.put]) (by first | (simp [Act.eval];done) | simp [Act.eval,Act.put]) Tryz.f8 Tryz.func8 (by kernel_rfl) (by kernel_rfl) _ (pick_rq HRa.out (by omega) 16 (by omega) (by omega)) ?_;intro v3 w3 h3;obtain ⟨z3,hz3,hv3,hr3,ht3⟩:=h3;subst hv3;obtain ⟨u,hu,hus⟩:=strs_at bdMarks 10 z3 bdMarks_le (by show z3 < 16;omega);have l1:¬ 9223372036854775807 < i+u.size:=(by omega);have l2:¬ 9223372036854775807 < i+u.size+(s.size - i):=(by omega);have cl:=row_cellsC (row_ty HLa.out ht3 HMS.out) hu;have HR3:=hide hr3;have HT3:=hide (HTa.out.trans ht3);clear hr3 ht3)
   | ((with_reducible refine world_is (w2.drew) ?_);refine step_call2E rfl 8 (.tmp 27) (.const (.int .i64 16)) _ _ rfl (.pointer (some ⟨rb,0,none⟩)) (.int .i64 16) (by first | (simp [Act.eval];done) | simp [Act.eval,Act.put]) (by first | (simp [Act.eval];done) | simp [Act.eval,Act.put]) Tryz.f8 Tryz.func8 (by kernel_rfl) (by kernel_rfl) _ (pick_rq HRd.out (by omega) 16 (by omega) (by omega)) ?_;intro v3 w3 h3;obtain ⟨z3,hz3,hv3,hr3,ht3⟩:=h3;subst hv3;obtain ⟨u,hu,hus⟩:=strs_at bdMarks 10 z3 bdMarks_le (by show z3 < 16;omega);have l1:¬ 9223372036854775807 < i+u.size:=(by omega);have l2:¬ 9223372036854775807 < i+u.size+(s.size - i):=(by omega);have cl:=row_cellsC (World.ownsRow_lit (base:=0) (e:=9) (size:=1) w3 #[.string ⟨#[32]⟩,.string ⟨#[10]⟩,.string ⟨#[34]⟩,.string ⟨#[92]⟩,.string ⟨#[48]⟩,.string ⟨#[120]⟩,.string ⟨#[40]⟩,.string ⟨#[41]⟩,.string ⟨#[59]⟩,.string ⟨#[35]⟩,.string ⟨#[61]⟩,.string ⟨#[61,62]⟩,.string ⟨#[32,105,102,32]⟩,.string ⟨#[32,105,110,32]⟩,.string ⟨#[44]⟩,.string ⟨#[45]⟩] 16 (Nat.zero_le _) (by unfold maxLen;omega) rfl) hu;have HR3:=hide (hr3.below (bA (.cells #[.string ⟨#[32]⟩,.string ⟨#[10]⟩,.string ⟨#[34]⟩,.string ⟨#[92]⟩,.string ⟨#[48]⟩,.string ⟨#[120]⟩,.string ⟨#[40]⟩,.string ⟨#[41]⟩,.string ⟨#[59]⟩,.string ⟨#[35]⟩,.string ⟨#[61]⟩,.string ⟨#[61,62]⟩,.string ⟨#[32,105,102,32]⟩,.string ⟨#[32,105,110,32]⟩,.string ⟨#[44]⟩,.string ⟨#[45]⟩] 9)));have HT3:=hide ((HTd.out.trans ht3).trans (.of (bA (.cells #[.string ⟨#[32]⟩,.string ⟨#[10]⟩,.string ⟨#[34]⟩,.string ⟨#[92]⟩,.string ⟨#[48]⟩,.string ⟨#[120]⟩,.string ⟨#[40]⟩,.string ⟨#[41]⟩,.string ⟨#[59]⟩,.string ⟨#[35]⟩,.string ⟨#[61]⟩,.string ⟨#[61,62]⟩,.string ⟨#[32,105,102,32]⟩,.string ⟨#[32,105,110,32]⟩,.string ⟨#[44]⟩,.string ⟨#[45]⟩] 9))));clear hr3 ht3))
  all_goals
   go_wp2
   go_ret
   exact ⟨_,rfl,by rw [sz_add,sz_add];omega,HR3.out.mono (by omega),HT3.out⟩
 ·by_cases hlt:i < s.size
  ·have x3:=ext_size s (i+1) s.size
   have ew:IntKind.i64.wrap ((i:Int)+1)=(i:Int)+1:=by rw [IntKind.wrap_i64];omega
   haveI hne:Nonempty (KB w2):=⟨⟨_,Below.refl _ _⟩⟩
   go_wp2_with fail
   refine region_class (KB.w (w:=w2)) (by kernel_rfl) (by kernel_rfl) ⟨⟨_,(Below.refl _ _).drew⟩,rfl⟩ ?_
   repeat (go_big_quiet_step (fail))
   refine wpQuiet_nil ?_
   rintro _ ⟨qq,rfl⟩
   go_wp2
   go_ret
   exact ⟨_,rfl,by rw [sz_add];omega,(HR2.out.below qq.below).mono (by omega),HT2.out.trans (.of qq.below)⟩
  ·have hlt':¬ (i:Int) < (s.size:Int):=by omega
   go_wp2
   go_ret
   exact ⟨_,rfl,by rw [sz_add];omega,HR2.out.mono (by omega),HT2.out⟩
 ·by_cases hlt:i < s.size
  ·have x3:=ext_size s (i+1) s.size
   have ew:IntKind.i64.wrap ((i:Int)+1)=(i:Int)+1:=by rw [IntKind.wrap_i64];omega
   have HRd:=hide (HR2.out.below (Below.refl _ _).drew)
   have HTd:=hide (HT2.out.trans (.of (Below.refl _ _).drew))
   have l1:¬ 9223372036854775807 < i+1:=by omega
   have k1:(0:Int)≤(i:Int)+1:=by omega
   have k2:(i:Int)+1≤(s.size:Int):=by omega
   have l2:¬ 9223372036854775807 < i+1+(s.size - (i+1)):=by omega
   go_wp2_with fail
   go_region_law ((with_reducible refine world_is (w2.drew) ?_);refine step_call2E rfl 8 (.tmp 59) (.const (.int .i64 256)) _ _ rfl (.pointer (some ⟨rb,0,none⟩)) (.int .i64 256) (by first | (simp [Act.eval];done) | simp [Act.eval,Act.put]) (by first | (simp [Act.eval];done) | simp [Act.eval,Act.put]) Tryz.f8 Tryz.func8 (by kernel_rfl) (by kernel_rfl) _ (pick_rq HRd.out (by omega) 256 (by omega) (by omega)) ?_;intro v3 w3 h3;obtain ⟨z3,hz3,hv3,hr3,ht3⟩:=h3;subst hv3;have hu3:IntKind.u8.wrap (z3:Int)=(z3:Int):=(by rw [IntKind.wrap_u8];omega);have hcv:=one_byteW (w3.alloc (.cells #[.int .u8 (z3:Int)] 5)) w3.heap.size (z3:Int) (by simp);have hos:=one_size (z3:Int);have HR3:=hide (hr3.below (bA (.cells #[.int .u8 (z3:Int)] 5)));have HT3:=hide ((HTd.out.trans ht3).trans (.of (bA (.cells #[.int .u8 (z3:Int)] 5))));clear hr3 ht3)
   all_goals
    go_wp2
    go_ret
    exact ⟨_,rfl,by rw [sz_add,sz_add,one_size];omega,HR3.out.mono (by omega),HT3.out⟩
  ·have hlt':¬ (i:Int) < (s.size:Int):=by omega
   go_wp2
   go_ret
   exact ⟨_,rfl,by rw [sz_add];omega,HR2.out.mono (by omega),HT2.out⟩
 ·go_wp2_with fail
  refine (Rq.pick HR2.out (by omega) 12 (by omega) (by omega)).mono ?_
  rintro e w3 ⟨z3,hz3,rfl,hr3,ht3⟩
  have HR3:=hide hr3
  have HT3:=hide (HT2.out.trans ht3)
  clear hr3 ht3
  have ew:IntKind.i64.wrap ((i:Int)+(z3:Int))=((i+z3:Nat):Int):=by rw [IntKind.wrap_i64];omega
  obtain ⟨j,hj⟩:∃ j,i+z3=j:=⟨_,rfl⟩
  rw [hj] at ew
  by_cases hlt:j < s.size
  ·have x3:=ext_size s j s.size
   haveI hne:Nonempty (KB w3):=⟨⟨_,Below.refl _ _⟩⟩
   go_wp2_with fail
   refine region_class (KB.w (w:=w3)) (by kernel_rfl) (by kernel_rfl) ⟨⟨_,(Below.refl _ _).drew⟩,rfl⟩ ?_
   repeat (go_big_quiet_step (fail))
   refine wpQuiet_nil ?_
   rintro _ ⟨qq,rfl⟩
   go_wp2
   go_ret
   exact ⟨_,rfl,by rw [sz_add];omega,(HR3.out.below qq.below).mono (by omega),HT3.out.trans (.of qq.below)⟩
  ·have hlt':¬ (j:Int) < (s.size:Int):=by omega
   go_wp2
   go_ret
   exact ⟨_,rfl,by rw [sz_add];omega,HR3.out.mono (by omega),HT3.out⟩
 ·go_wp2
  go_ret
  exact ⟨_,rfl,by rw [sz_add];omega,HR2.out.mono (by omega),HT2.out⟩
structure LS [Inhabited Bs] (rb:Nat) (vb:Value) (n:Nat) (w:World) (tv:Value) (ts:List Sc.T) (q gt cap:Nat) (t:List UInt8) (W:World):Prop where
 R:Rq rb vb n q W
 T:Ty w W
 toks:W.ownsRow 0 30 4 tv ts.length (Sc.cellsOf ts)
 out:W.ownsRow w.heap.size 5 1 (.slice (some ⟨gt,0,none⟩) t.length cap) t.length (Tr.bytesOf t)
 rl:rb < w.heap.size
section
variable {rb:Nat} {vb:Value} {n:Nat} {w:World} {tv:Value} {ts:List Sc.T} {q gt cap:Nat} {t:List UInt8} {W:World}
theorem LS.below [Inhabited Bs] (h:LS rb vb n w tv ts q gt cap t W) {W':World} (hb:Below W.heap.size W W'):LS rb vb n w tv ts q gt cap t W' :=
 ⟨h.R.below hb,h.T.trans (.of hb),row_below h.toks hb,row_below h.out hb,h.rl⟩
theorem LS.pick [Inhabited Bs] (h:LS rb vb n w tv ts q gt cap t W) {W':World} (hr:Rq rb vb n (q+1) W') (ht:Ty W W'):LS rb vb n w tv ts (q+1) gt cap t W' :=
 ⟨hr,h.T.trans ht,row_ty h.toks ht (by unfold Mine;simp),row_ty h.out ht (by unfold Mine;simp),h.rl⟩
theorem LS.app [Inhabited Bs] (h:LS rb vb n w tv ts q gt cap t W) {W':World} {S:ByteArray} {v':Value} (hown':W'.ownsRow w.heap.size 5 1 v' (t.length+S.size) (Tr.bytesOf t++Lib.strCells S)) (hg:W.grownBy W' (Value.slice (some ⟨gt,0,none⟩) t.length cap).ownBlock) (hn:¬ v' = .slice none 0 0) :
  ∃ g' cap',v' = .slice (some ⟨g',0,none⟩) (t++S.data.toList).length cap'∧LS rb vb n w tv ts q g' cap' (t++S.data.toList) W':=by
 have e:S.size=S.data.toList.length:=Array.length_toList.symm
 have e2:t.length+S.size=(t++S.data.toList).length:=by rw [List.length_append,e]
 rw [e2,strCells_list,← Tr.bytesOf_app] at hown'
 obtain ⟨g',cap',rfl⟩:=conv_any hown' hn
 have hlo:=(h.out.lt gt rfl).1
 have hrl:=h.rl
 have hty:tyAt W gt=some 5:=row_tyAt h.out rfl
 have hb:∀ b,b < W.heap.size→b≠gt→W'.heap[b]?=W.heap[b]?:=fun b h1 h2=>hg.block b h1 (by intro x;cases x;exact h2 rfl)
 refine ⟨g',cap',rfl,?_,?_,?_,hown',h.rl⟩
 ·obtain ⟨p,hp,hr⟩:=h.R
  have hl:=hr.lt
  exact ⟨p,hp,hr.upto (fun b hq=>hb b (by omega) (by omega))⟩
 ·refine ⟨hg.os.trans h.T.os,hg.tape.trans h.T.tape,hg.output.trans h.T.output,Nat.le_trans h.T.size hg.size,fun b h1 h2=>(hb b (Nat.lt_of_lt_of_le h1 h.T.size) (by omega)).trans (h.T.block b h1 h2),fun hm b h1 h2=>?_,fun b h1 h2=>(hb b (Nat.lt_of_lt_of_le h1 h.T.size) (by omega)).trans (h.T.old b h1 h2)⟩
  obtain ⟨x1,x2⟩:=h.T.two hm b h1 h2
  have e3:=hb b (Nat.lt_of_lt_of_le h1 h.T.size) (by omega)
  exact ⟨(tyAt_block e3).trans x1,(World.cell?_of_block (a:=⟨b,2,none⟩) e3).trans x2⟩
 ·exact row_tyM h.toks (fun b h1 h2=>hb b h1 (fun x=>by rw [x,hty] at h2;cases h2))
end
def Sc.begAt (s:ByteArray) (j:Nat):Nat:=((Sc.toks s)[j]?.map (·.place)).getD s.size
theorem Sc.beg_end [Inhabited Bs] {s:ByteArray} (j:Nat):Sc.EndAt (Sc.toks s) j (Sc.begAt s (j+1)) s.size:=by
 unfold Sc.EndAt Sc.begAt
 cases h:(Sc.toks s)[j+1]? with
 | none=>exact .inr ⟨rfl,rfl⟩
 | some u=>exact .inl ⟨u,rfl,rfl⟩
theorem Sc.beg_lt [Inhabited Bs] {s:ByteArray} (hc:Sc.code s=0) (j:Nat) (hj:j < (Sc.toks s).length):Sc.begAt s j=((Sc.toks s)[j]).place∧Sc.begAt s j < Sc.begAt s (j+1)∧Sc.begAt s (j+1)≤s.size:=by
 have h:=Sc.piece_alone hc (List.getElem?_eq_getElem hj) (Sc.beg_end j)
 have e:Sc.begAt s j=((Sc.toks s)[j]).place:=by unfold Sc.begAt;rw [List.getElem?_eq_getElem hj];rfl
 rw [e]
 exact ⟨rfl,h.1,h.2.1⟩
end Go.Proofs.YtbckhbeebngjfaaGreatDoor
