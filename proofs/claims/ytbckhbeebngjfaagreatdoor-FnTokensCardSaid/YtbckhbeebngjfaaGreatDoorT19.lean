/- Sc4, Sc5. -/
import Derived.Test.YtbckhbeebngjfaaGreatDoorT18
import Derived.RangeFuncNested
import Derived.RangeFuncBound
import Derived.RangeFuncCalls
import Derived.RangeFuncLeaves
import Derived.Shelf.Abstract
import Derived.Shelf.RegionOpen
import Derived.OwnWalkIn
import Derived.TacticsInMore
import Derived.LoopNIn
import Derived.LoopIn
import Derived.Maps.AppendAt
import Derived.WalkMore
namespace Go.Proofs.YtbckhbeebngjfaaGreatDoor
open Go.RowKit
theorem Sc.mark_cases (l:List UInt8):Sc.oneMark l=Sc.bad 2∨∃ m,Sc.oneMark l=⟨0,5,m,0,m.length⟩∧1≤m.length∧m <+: l:=by
 unfold Sc.oneMark
 cases h:Sc.marks.find? (fun m=>m.isPrefixOf l) with
 | none=>exact .inl rfl
 | some m=>exact .inr ⟨m,rfl,(Sc.marks_pos m (List.mem_of_find?_eq_some h)).1,List.isPrefixOf_iff_prefix.1 (by simpa using List.find?_some h)⟩
set_option maxRecDepth 100000 in
set_option maxHeartbeats 1000000 in
theorem readMark_any (s:ByteArray) (w:World) (hs:s.size≤1048576) (h0:0 < s.size) :
  Calls Tryz.prog 48 #[.string s] w fun e w'=>e = .returned (implOut (Sc.oneMark s.data.toList))∧Below w.heap.size w w':=by
 have hM:=fun w=>markSize_any s w h0
 rcases Sc.mark_cases s.data.toList with hb | ⟨m,hm,h1,hp⟩
 ·have HB:=hide hb
  rw [hb] at hM
  have hM:∀ w,Calls Tryz.prog 68 #[.string s] w fun e w'=>e = .returned (.int .i64 0)∧w'=w:=hM
  have HM:=hide hM
  clear hM hb
  go_enter Tryz.func48,Tryz.ntmps48
  go_wp2_with (go_at_call 68;refine (HM.out _).mono ?_;rintro e w' ⟨rfl,rfl⟩)
  refine bodyPost_ret (v:= .tuple #[.agg #[.int .i64 0,.string ⟨#[]⟩,.int .i64 0,.int .i64 0],.int .i64 0,.int .i64 2]) (by simp [results,Tryz.results48,go_sem]) rfl ⟨by rw [implOut_bad HB.out (by decide)];rfl,?_⟩
  exact bA _
 ·have HB:=hide hm
  rw [hm] at hM
  have hM:∀ w,Calls Tryz.prog 68 #[.string s] w fun e w'=>e = .returned (.int .i64 m.length)∧w'=w:=hM
  have HM:=hide hM
  have hx:(s.extract 0 m.length).data.toList=m:=by
   rw [Lib.extract_data,Nat.sub_zero,List.drop_zero];exact (List.prefix_iff_eq_take.1 hp).symm
  have HX:=hide hx
  have hle:m.length≤s.size:=by have:=hp.length_le;simpa using this
  have hne:((m.length:Int) == 0)=false:=by rw [beq_eq_false_iff_ne];omega
  clear hM hm hp hx
  go_enter Tryz.func48,Tryz.ntmps48
  go_wp2_with (first | (go_at_call 68;refine (HM.out _).mono ?_;rintro e w' ⟨rfl,rfl⟩) | (go_at_call 66;refine (newToken_any 5 _ _ ?_).mono ?_))
  ·simp;omega
  ·rintro e w1 ⟨rfl,hb⟩
   obtain ⟨hc,hf⟩:=bcell hb
   have hb0:Below w.heap.size w w1:=(bA _).trans (hb.mono (by simp))
   go_wp2
   refine bodyPost_ret (v:= .tuple #[.agg #[.int .i64 5,.string (s.extract 0 m.length),.int .i64 0,.int .i64 0],.int .i64 m.length,.int .i64 0]) (by simp [results,Tryz.results48,go_sem,hc]) rfl ⟨by rw [implOut_good HB.out,ext_mk HX.out];rfl,?_⟩
   exact below4 hb0 (Nat.le_refl _)
abbrev O33:Obj:= .cells #[.int .i64 0,.string ⟨#[]⟩,.int .i64 0,.int .i64 0] 30
theorem box4 {w wr:World} (h:Below (w.heap.size+1) (w.alloc O33) wr) :
  (wr.cell? ⟨w.heap.size,0,none⟩=some (.int .i64 0)∧wr.cell? ⟨w.heap.size,1,none⟩=some (.string ⟨#[]⟩)∧wr.cell? ⟨w.heap.size,2,none⟩=some (.int .i64 0)∧wr.cell? ⟨w.heap.size,3,none⟩=some (.int .i64 0)) ∧
  (wr.frozen? ⟨w.heap.size,0,none⟩=false∧wr.frozen? ⟨w.heap.size,1,none⟩=false∧wr.frozen? ⟨w.heap.size,2,none⟩=false∧wr.frozen? ⟨w.heap.size,3,none⟩=false):=by
 have hb:=(h.block w.heap.size (Nat.lt_succ_self _)).trans (heap_alloc_new' w O33)
 simp only [World.cell?,World.frozen?,hb]
 simp
theorem app_stepG {B:Nat} {w wr w1:World} {t:List UInt8} {c:UInt8} {v v':Value} {o:Obj} (hown:wr.ownsRow B 5 1 v t.length (Sc.bytesOf t)) (hB:Below B w wr) (hs:B≤wr.heap.size)
  (hown':w1.ownsRow B 5 1 v' (t.length+1) (Sc.bytesOf t++[.int .u8 c.toNat])) (hg:(wr.alloc o).grownBy w1 v.ownBlock) :
  w1.ownsRow B 5 1 v' (t++[c]).length (Sc.bytesOf (t++[c]))∧Below B w w1∧B≤w1.heap.size:=by
 refine ⟨by rw [Sc.bytesOf_snoc,List.length_append];exact hown',(hB.alloc hs _).grown hg (by simp;omega) (fun k e=>(hown.lt k e).1),?_⟩
 have:=hg.size;simp at this;omega
theorem row_cases {w:World} {B n:Nat} {v:Value} {xs:List Value} (h:w.ownsRow B 5 1 v n xs):(v = .slice none 0 0∧n=0)∨∃ g cap,v = .slice (some ⟨g,0,none⟩) n cap:=by
 rcases h.2 with h | ⟨g,cap,_,hv,_⟩
 ·exact .inl h
 ·exact .inr ⟨g,cap,hv⟩
theorem conv_nil (w:World):(convert 22 9 (.slice none 0 0)).run Tryz.prog w = .ok (.string ⟨#[]⟩) w :=
 run_convert_bytes_nil (P:=Tryz.prog) w 22 5 Tryz.underlying22 Tryz.underlying5 0 0 9 Tryz.underlying9
theorem Sc.hex_at (s:ByteArray) (j:Nat) (h:j+2 < s.size):hexOut ((s.extract (j+1) s.size).data.toList)=if Sc.hexv s[j+1] < 0∨Sc.hexv s[j+2] < 0 then .tuple #[.int .u8 0,.bool false] else .tuple #[.int .u8 (Sc.hexv s[j+1]*(16:Int)+Sc.hexv s[j+2]),.bool true]:=by
 have e:(s.extract (j+1) s.size).data.toList=s[j+1] :: s[j+2] :: s.data.toList.drop (j+3):=by
  rw [Lib.extract_data,List.take_of_length_le (by simp),Sc.drop_cons s (j+1) (by omega),Sc.drop_cons s (j+2) (by omega)]
 rw [e];rfl
theorem Sc.hex_short (s:ByteArray) (j:Nat) (h:s.size≤j+2):hexOut ((s.extract (j+1) s.size).data.toList) = .tuple #[.int .u8 0,.bool false]:=by
 have e:((s.extract (j+1) s.size).data.toList).length < 2:=by simp;omega
 match hl:(s.extract (j+1) s.size).data.toList,e with
 | [],_=>rfl
 | [_],_=>rfl
set_option maxRecDepth 100000 in
set_option maxHeartbeats 2000000 in
theorem readText_any (s:ByteArray) (w:World) (hs:s.size≤1048576) (h0:0 < s.size) :
  Calls Tryz.prog 47 #[.string s] w fun e w'=>e = .returned (implOut (Sc.oneText s.data.toList))∧Below w.heap.size w w':=by
 obtain ⟨i0,hi,hz0,hz1,hz2⟩:=info_parts Tryz.infoS5
 have htl:s.data.toList.tail=s.data.toList.drop 1:=by simp
 have ho:Sc.oneText s.data.toList=match Sc.unq (s.data.toList.drop 1) with
  | none=>Sc.bad 4
  | some p=>if 1000 < p.1.length then Sc.bad 5 else ⟨0,4,p.1,0,p.2+1⟩:=by unfold Sc.oneText;rw [htl];rfl
 have HO:=hide ho
 have hC:=fun j=>hexByte_any (s.extract (j+1) s.size)
 have HC0:=hide hC
 clear htl ho hC
 go_enter Tryz.func47,Tryz.ntmps47
 go_wp2
 go_loopw [5,6] (fun v i wr=>∃ (j:Nat) (t:List UInt8),1≤j∧j≤s.size∧i = .int .i64 j∧wr.ownsRow (w.heap.size+1) 5 1 v t.length (Sc.bytesOf t)∧Below (w.heap.size+1) (w.alloc O33) wr∧w.heap.size+1≤wr.heap.size∧t.length≤j ∧
   Sc.unq (s.data.toList.drop 1)=(Sc.unq (s.data.toList.drop j)).map fun p=>(t++p.1,p.2+(j - 1))) (fun _ i _=>s.size - (intOf i).toNat)
 case atStart =>
  exact ⟨1,[],Nat.le_refl _,h0,rfl,World.ownsRow_nil _ _ _ _,Below.refl _ _,by simp,Nat.zero_le _,by simp⟩
 case round =>
  obtain ⟨j,t,hj1,hj,rfl,hown,hB,hsz,htl,he⟩:=hrel
  have HE:=hide he
  clear he
  obtain ⟨⟨c0,c1,c2,c3⟩,f0,f1,f2,f3⟩:=box4 hB
  have hBw:Below w.heap.size w wr:=(bA _).trans (hB.mono (by omega))
  have HBW:=hide hBw
  clear hBw
  by_cases hlt:j < s.size
  ·have hd:=hide (Sc.drop_cons s j hlt)
   cases h34:((s[j].toNat:Int) == 34)
   ·have H34:Hid (s[j].toNat≠34):=by simp at h34;exact hide (by omega)
    cases h92:((s[j].toNat:Int) == 92)
    ·have H92:Hid (s[j].toNat≠92):=by simp at h92;exact hide (by omega)
     by_cases hlo:(s[j].toNat:Int) < 32
     ·have HB:Hid (Sc.oneText s.data.toList=Sc.bad 4):=hide (by rw [HO.out,HE.out,hd.out,Sc.unq_out _ H34.out H92.out (.inl (by omega))];rfl)
      go_wp2
      refine bodyPost_ret (v:= .tuple #[.agg #[.int .i64 0,.string ⟨#[]⟩,.int .i64 0,.int .i64 0],.int .i64 0,.int .i64 4]) (by simp [results,Tryz.results47,go_sem,c0,c1,c2,c3]) rfl ⟨by rw [implOut_bad HB.out (by decide)];rfl,?_⟩
      exact below4 HBW.out (Nat.le_refl _)
     ·by_cases hhi:126 < (s[j].toNat:Int)
      ·have HB:Hid (Sc.oneText s.data.toList=Sc.bad 4):=hide (by rw [HO.out,HE.out,hd.out,Sc.unq_out _ H34.out H92.out (.inr (by omega))];rfl)
       go_wp2
       refine bodyPost_ret (v:= .tuple #[.agg #[.int .i64 0,.string ⟨#[]⟩,.int .i64 0,.int .i64 0],.int .i64 0,.int .i64 4]) (by simp [results,Tryz.results47,go_sem,c0,c1,c2,c3]) rfl ⟨by rw [implOut_bad HB.out (by decide)];rfl,?_⟩
       exact below4 HBW.out (Nat.le_refl _)
      ·go_wp2_with (first | (at_builtin;refine wpList_append_own _ rfl _ _ 22 rfl (w.heap.size+1) 5 i0 (.int .u8 0) 1 1 Tryz.underlying22 hi hz0 hz1 hz2 rfl (by decide) _ _ _ rfl (hown.alloc _) ⟨wr.heap.size,0,none⟩ 1 1 [.int .u8 s[j].toNat] rfl rfl (cell_one_new _ _ _) (by simp [Value.oneCell']) ?_ ?_ ?_ ?_))
       ·unfold maxLen;omega
       ·omega
       ·first | omega | (simp;omega)
       ·intro v' w1 hown' hgrow _
        obtain ⟨ho2,hb2,hs2⟩:=app_stepG hown hB hsz hown' hgrow
        clear hown' hgrow hown c0 c1 c2 c3 f0 f1 f2 f3
        go_wp2
        go_roundw
        case rel =>
         refine ⟨j+1,t++[s[j]],by omega,by omega,by go_num,ho2,hb2,hs2,by simp;omega,?_⟩
         rw [HE.out,hd.out,Sc.unq_in _ H34.out H92.out (by omega),Option.map_map]
         congr 1;funext p;simp;omega
        case measure=>simp [intOf];omega
    ·have H92:Hid (s[j].toNat=92):=by simp at h92;exact hide (by omega)
     by_cases h2:s.size≤j+2
     ·have HB:Hid (Sc.oneText s.data.toList=Sc.bad 4):=hide (by rw [HO.out,HE.out,hd.out,Sc.unq_92s _ H92.out (by simp;omega)];rfl)
      have hC:=HC0.out j
      rw [Sc.hex_short s j h2] at hC
      have HC:=hide (fun w=>hC w (by simp;omega))
      clear hC
      go_wp2_with (go_at_call 67;refine (HC.out _).mono ?_;rintro e w' ⟨rfl,rfl⟩)
      refine bodyPost_ret (v:= .tuple #[.agg #[.int .i64 0,.string ⟨#[]⟩,.int .i64 0,.int .i64 0],.int .i64 0,.int .i64 4]) (by simp [results,Tryz.results47,go_sem,c0,c1,c2,c3]) rfl ⟨by rw [implOut_bad HB.out (by decide)];rfl,?_⟩
      exact below4 HBW.out (Nat.le_refl _)
     ·have hd2:=hide (show s.data.toList.drop j=s[j] :: s[j+1] :: s[j+2] :: s.data.toList.drop (j+3) by rw [Sc.drop_cons s j hlt,Sc.drop_cons s (j+1) (by omega),Sc.drop_cons s (j+2) (by omega)])
      have hC:=HC0.out j
      rw [Sc.hex_at s j (by omega)] at hC
      obtain ⟨hx1a,hx1b⟩:=Sc.hexv_le s[j+1]
      obtain ⟨hx2a,hx2b⟩:=Sc.hexv_le s[j+2]
      by_cases hn:Sc.hexv s[j+1] < 0∨Sc.hexv s[j+2] < 0
      ·have HB:Hid (Sc.oneText s.data.toList=Sc.bad 4):=hide (by rw [HO.out,HE.out,hd2.out,Sc.unq_92n _ H92.out hn];rfl)
       rw [if_pos hn] at hC
       have HC:=hide (fun w=>hC w (by simp;omega))
       clear hC hn
       go_wp2_with (go_at_call 67;refine (HC.out _).mono ?_;rintro e w' ⟨rfl,rfl⟩)
       refine bodyPost_ret (v:= .tuple #[.agg #[.int .i64 0,.string ⟨#[]⟩,.int .i64 0,.int .i64 0],.int .i64 0,.int .i64 4]) (by simp [results,Tryz.results47,go_sem,c0,c1,c2,c3]) rfl ⟨by rw [implOut_bad HB.out (by decide)];rfl,?_⟩
       exact below4 HBW.out (Nat.le_refl _)
      ·rw [if_neg hn] at hC
       have HC:=hide (fun w=>hC w (by simp;omega))
       have HU:=hide (Sc.unq_92 (s.data.toList.drop (j+3)) H92.out (x:=s[j+1]) (y:=s[j+2]) (by omega) (by omega))
       have hy1:0≤Sc.hexv s[j+1]:=by omega
       have hy2:0≤Sc.hexv s[j+2]:=by omega
       clear hC hn hx1a hx2a
       go_wp2_with (first | (go_at_call 67;refine (HC.out _).mono ?_;rintro e w' ⟨rfl,hww⟩;rw [hww];clear hww) | (at_builtin;refine wpList_append_own _ rfl _ _ 22 rfl (w.heap.size+1) 5 i0 (.int .u8 0) 1 1 Tryz.underlying22 hi hz0 hz1 hz2 rfl (by decide) _ _ _ rfl (hown.alloc _) ⟨wr.heap.size,0,none⟩ 1 1 [.int .u8 (Sc.hexv s[j+1]*(16:Int)+Sc.hexv s[j+2])] rfl rfl (cell_one_new _ _ _) (by simp [Value.oneCell']) ?_ ?_ ?_ ?_))
       ·unfold maxLen;omega
       ·omega
       ·first | omega | (simp;omega)
       ·intro v' w1 hown' hgrow _
        rw [show Sc.hexv s[j+1]*(16:Int)+Sc.hexv s[j+2]=16 * Sc.hexv s[j+1]+Sc.hexv s[j+2] from by omega,← hexb hy1 hx1b hy2 hx2b] at hown'
        obtain ⟨ho2,hb2,hs2⟩:=app_stepG hown hB hsz hown' hgrow
        clear hown' hgrow hown c0 c1 c2 c3 f0 f1 f2 f3
        go_wp2
        go_roundw
        case rel =>
         refine ⟨j+3,_,by omega,by omega,by go_num,ho2,hb2,hs2,by simp;omega,?_⟩
         rw [HE.out,hd2.out,HU.out,Option.map_map]
         congr 1;funext p;simp;omega
        case measure=>simp [intOf];omega
   ·have HU:Hid (Sc.unq (s.data.toList.drop 1)=some (t,j)):=hide (by rw [HE.out,hd.out,Sc.unq_34 _ (by simp at h34;omega)];simp;omega)
    by_cases hl:1000 < t.length
    ·have HB:Hid (Sc.oneText s.data.toList=Sc.bad 5):=hide (by rw [HO.out,HU.out];simp only;rw [if_pos hl])
     rcases row_cases hown with ⟨hv,hn⟩ | ⟨g,cap,hv⟩
     ·omega
     ·rw [hv]
      rw [hv] at hown
      clear hv
      go_wp2
      refine bodyPost_ret (v:= .tuple #[.agg #[.int .i64 0,.string ⟨#[]⟩,.int .i64 0,.int .i64 0],.int .i64 0,.int .i64 5]) (by simp [results,Tryz.results47,go_sem,c0,c1,c2,c3]) rfl ⟨by rw [implOut_bad HB.out (by decide)];rfl,?_⟩
      exact below4 HBW.out (Nat.le_refl _)
    ·have HB:Hid (Sc.oneText s.data.toList=⟨0,4,t,0,j+1⟩):=hide (by rw [HO.out,HU.out];simp only;rw [if_neg hl])
     rcases row_cases hown with ⟨hv,hn⟩ | ⟨g,cap,hv⟩
     ·have ht:t=[]:=List.eq_nil_of_length_eq_zero hn
      subst ht
      rw [hv]
      have hcv:=conv_nil wr
      clear hv hn hl hown
      go_wp2
      refine bodyPost_ret (v:= .tuple #[.agg #[.int .i64 4,.string ⟨#[]⟩,.int .i64 0,.int .i64 0],.int .i64 ((j:Int)+1),.int .i64 0]) (by simp [results,Tryz.results47,go_sem,c0,c1,c2,c3]) rfl ⟨by rw [implOut_good HB.out];rfl,?_⟩
      exact below4 HBW.out (Nat.le_refl _)
     ·rw [hv]
      rw [hv] at hown
      have hcv:=conv_own hown
      clear hv
      go_wp2
      refine bodyPost_ret (v:= .tuple #[.agg #[.int .i64 4,.string ⟨t.toArray⟩,.int .i64 0,.int .i64 0],.int .i64 ((j:Int)+1),.int .i64 0]) (by simp [results,Tryz.results47,go_sem,c0,c1,c2,c3]) rfl ⟨by rw [implOut_good HB.out];rfl,?_⟩
      exact below4 HBW.out (Nat.le_refl _)
  ·have HB:Hid (Sc.oneText s.data.toList=Sc.bad 4):=hide (by rw [HO.out,HE.out,List.drop_of_length_le (i:=j) (by simp;omega)];rfl)
   go_wp2
   refine bodyPost_ret (v:= .tuple #[.agg #[.int .i64 0,.string ⟨#[]⟩,.int .i64 0,.int .i64 0],.int .i64 0,.int .i64 4]) (by simp [results,Tryz.results47,go_sem,c0,c1,c2,c3]) rfl ⟨by rw [implOut_bad HB.out (by decide)];rfl,?_⟩
   exact below4 HBW.out (Nat.le_refl _)
theorem implOut_shape (r:Sc.R):∃ (kd:Int) (tx:ByteArray) (n en cd:Int),implOut r = .tuple #[.agg #[.int .i64 kd,.string tx,.int .i64 n,.int .i64 0],.int .i64 en,.int .i64 cd]:=by
 unfold implOut;split <;> exact ⟨_,_,_,_,_,rfl⟩
set_option maxRecDepth 100000 in
set_option maxHeartbeats 1000000 in
theorem readToken_any (s:ByteArray) (b:Nat) (w:World) (hs:s.size≤1048576) (h0:0 < s.size) (hG:Glob w) (hm:w.ownsMap (H:=Unit) Tryz.prog 9 unitElem b 17 Sc.wordMap) :
  Calls Tryz.prog 27 #[.string s,.map (some b)] w fun e w'=>e = .returned (implOut (Sc.one s.data.toList))∧Below w.heap.size w w':=by
 have hG1:Glob (w.alloc O33):=hG.below (bA _) hG.2.2
 have hm1:=hm.alloc O33
 obtain ⟨kd,tx,n,en,cd,heq⟩:=implOut_shape (Sc.one s.data.toList)
 cases hd:Sc.dig s[0]
 ·have hnb:Sc.nm s[0]=Sc.beg s[0]:=by simp [Sc.nm,hd]
  cases hb:Sc.beg s[0]
  ·rw [hb] at hnb
   cases hq:((s[0].toNat:Int) == 34)
   ·have h1:Sc.one s.data.toList=Sc.oneMark s.data.toList:=by simpa using Sc.one_mark s 0 h0 hd hb (by simp at hq;omega)
    have hR:=readMark_any s (w.alloc O33) hs h0
    rw [h1] at heq ⊢
    rw [heq] at hR ⊢
    have HR:=hide hR
    clear hR heq h1 hG1 hm1
    go_enter Tryz.func27,Tryz.ntmps27
    go_wp2_with (first | (go_at_call 43;refine (idigit_any _ _).mono ?_;rintro e w' ⟨rfl,rfl⟩) | (go_at_call 45;refine (iname_any _ _).mono ?_;rintro e w' ⟨rfl,rfl⟩) | (go_at_call 48;refine HR.out.mono ?_;rintro e w1 ⟨rfl,hb⟩;obtain ⟨hc,hf⟩:=bcell hb))
    have hb0:Below w.heap.size w w1:=(bA _).trans (hb.mono (by simp))
    refine bodyPost_ret (v:= .tuple #[.agg #[.int .i64 kd,.string tx,.int .i64 n,.int .i64 0],.int .i64 en,.int .i64 cd]) (by simp [results,Tryz.results27,go_sem,hc]) rfl ⟨rfl,?_⟩
    exact below4 hb0 (Nat.le_refl _)
   ·have h1:Sc.one s.data.toList=Sc.oneText s.data.toList:=by simpa using Sc.one_text s 0 h0 hd hb (by simp at hq;omega)
    have hR:=readText_any s (w.alloc O33) hs h0
    rw [h1] at heq ⊢
    rw [heq] at hR ⊢
    have HR:=hide hR
    clear hR heq h1 hG1 hm1
    go_enter Tryz.func27,Tryz.ntmps27
    go_wp2_with (first | (go_at_call 43;refine (idigit_any _ _).mono ?_;rintro e w' ⟨rfl,rfl⟩) | (go_at_call 45;refine (iname_any _ _).mono ?_;rintro e w' ⟨rfl,rfl⟩) | (go_at_call 47;refine HR.out.mono ?_;rintro e w1 ⟨rfl,hb⟩;obtain ⟨hc,hf⟩:=bcell hb))
    have hb0:Below w.heap.size w w1:=(bA _).trans (hb.mono (by simp))
    refine bodyPost_ret (v:= .tuple #[.agg #[.int .i64 kd,.string tx,.int .i64 n,.int .i64 0],.int .i64 en,.int .i64 cd]) (by simp [results,Tryz.results27,go_sem,hc]) rfl ⟨rfl,?_⟩
    exact below4 hb0 (Nat.le_refl _)
  ·rw [hb] at hnb
   have h1:Sc.one s.data.toList=Sc.oneName s.data.toList:=by simpa using Sc.one_name s 0 h0 hd hb
   have hR:=readName_any s b (w.alloc O33) hs hm1
   rw [h1] at heq ⊢
   rw [heq] at hR ⊢
   have HR:=hide hR
   clear hR heq h1 hG1 hm1
   go_enter Tryz.func27,Tryz.ntmps27
   go_wp2_with (first | (go_at_call 43;refine (idigit_any _ _).mono ?_;rintro e w' ⟨rfl,rfl⟩) | (go_at_call 45;refine (iname_any _ _).mono ?_;rintro e w' ⟨rfl,rfl⟩) | (go_at_call 46;refine HR.out.mono ?_;rintro e w1 ⟨rfl,hb⟩;obtain ⟨hc,hf⟩:=bcell hb))
   have hb0:Below w.heap.size w w1:=(bA _).trans (hb.mono (by simp))
   refine bodyPost_ret (v:= .tuple #[.agg #[.int .i64 kd,.string tx,.int .i64 n,.int .i64 0],.int .i64 en,.int .i64 cd]) (by simp [results,Tryz.results27,go_sem,hc]) rfl ⟨rfl,?_⟩
   exact below4 hb0 (Nat.le_refl _)
 ·have h1:Sc.one s.data.toList=Sc.oneNum s.data.toList:=by simpa using Sc.one_num s 0 h0 hd
  have hR:=readNumber_any s (w.alloc O33) hs h0 hd hG1
  rw [h1] at heq ⊢
  rw [heq] at hR ⊢
  have HR:=hide hR
  clear hR heq h1 hG1 hm1
  go_enter Tryz.func27,Tryz.ntmps27
  go_wp2_with (first | (go_at_call 43;refine (idigit_any _ _).mono ?_;rintro e w' ⟨rfl,rfl⟩) | (go_at_call 45;refine (iname_any _ _).mono ?_;rintro e w' ⟨rfl,rfl⟩) | (go_at_call 44;refine HR.out.mono ?_;rintro e w1 ⟨rfl,hb⟩;obtain ⟨hc,hf⟩:=bcell hb))
  have hb0:Below w.heap.size w w1:=(bA _).trans (hb.mono (by simp))
  refine bodyPost_ret (v:= .tuple #[.agg #[.int .i64 kd,.string tx,.int .i64 n,.int .i64 0],.int .i64 en,.int .i64 cd]) (by simp [results,Tryz.results27,go_sem,hc]) rfl ⟨rfl,?_⟩
  exact below4 hb0 (Nat.le_refl _)
end Go.Proofs.YtbckhbeebngjfaaGreatDoor
namespace Go.Proofs.YtbckhbeebngjfaaGreatDoor
open Go.RowKit Go.Shelf
attribute [local go_sem] Oper.semAt_some
namespace Sc
abbrev Y:=T × Nat
def encs (x:Y):Array Value:=#[.agg #[.int .i64 x.1.kind,.string ⟨x.1.text.toArray⟩,.int .i64 x.1.n,.int .i64 x.1.place],.int .i64 x.2]
def seqOf (p:List T × Nat × Nat):List Y:=p.1.map (fun t=>(t,0))++if p.2.1=0 then [] else [(⟨0,[],0,p.2.2⟩,p.2.1)]
def seq (l:List UInt8) (k:Nat):List Y:=seqOf (from_ l k)
theorem seq_end (l:List UInt8) (k:Nat) (h:l.length≤k+gapLen false (l.drop k)):seq l k=[]:=by unfold seq;rw [from_end l k h];rfl
theorem seq_bad (l:List UInt8) (k:Nat) (hk:k < l.length) (hg:gapLen false (l.drop k)=0) (hc:(one (l.drop k)).code≠0):seq l k=[(⟨0,[],0,k⟩,(one (l.drop k)).code)]:=by
 unfold seq;rw [from_bad l k hk hg hc];simp [seqOf,hc]
theorem seq_tok (l:List UInt8) (k:Nat) (hk:k < l.length) (hg:gapLen false (l.drop k)=0) (hc:(one (l.drop k)).code=0) :
  seq l k=(⟨(one (l.drop k)).kind,(one (l.drop k)).text,(one (l.drop k)).n,k⟩,0) :: seq l (k+(one (l.drop k)).size):=by
 unfold seq;rw [from_tok l k hk hg hc];simp [seqOf]
theorem seq_gap (l:List UInt8) (k k':Nat) (h:k+gapLen false (l.drop k)=k'+gapLen false (l.drop k')):seq l k=seq l k':=by
 have a:∀ k,seq l k=seq l (k+gapLen false (l.drop k)):=by
  intro k
  have hg:gapLen false (l.drop (k+gapLen false (l.drop k)))=0:=by have:=gap_gap false (l.drop k);rwa [List.drop_drop] at this
  unfold seq;rw [← from_gap l k hg]
 rw [a k,a k',h]
theorem ext_drop (s:ByteArray) (k:Nat):(s.extract k s.size).data.toList=s.data.toList.drop k:=by
 rw [Lib.extract_data,List.take_of_length_le (by simp)]
end Sc
theorem below_grown {A B:World} (h:Below A.heap.size A B):A.grownBy B none:=⟨h.os,h.tape,h.output,h.size,fun k hk _=>h.block k hk⟩
set_option maxHeartbeats 400000 in
theorem itoks_any (s:ByteArray) (w:World):Calls Tryz.prog 13 #[.string s] w fun e w'=>e = .returned (.func (.func 24) #[] #[.pointer (some ⟨w.heap.size,0,none⟩)])∧w'=w.alloc (.cells #[.string s] 9):=by
 go_enter Tryz.func13,Tryz.ntmps13
 go_wp2
 go_ret
 exact ⟨rfl,rfl⟩
theorem map_keeps {P:Program} {A B:World} {b n:Nat} {D:DataW Unit} (hm:A.ownsMap P 9 unitElem b n D) (h:KeepsWalks A B):B.ownsMap P 9 unitElem b n D:=by
 obtain ⟨es,clock,hb,r⟩:=hm
 exact ⟨es,clock,h.same _ _ hb rfl,r⟩
theorem below_walks {A B:World} (h:Below A.heap.size A B):KeepsWalks A B:=KeepsWalks.of_grownBy (below_grown h) (fun _ _ e=>by cases e)
theorem cast0:((0:Nat):Int)=0:=rfl
def Kp (n₀ Bn:Nat) (A B:World):Prop:=Below n₀ A B∧KeepsWalks A B∧B.heap[Bn]?=A.heap[Bn]?
set_option maxRecDepth 100000 in
set_option maxHeartbeats 2000000 in
theorem each1_in (n:Nat) (hn:3≤n) (l Bn n₀:Nat) (s:ByteArray) (hs:s.size≤8000) (J Jx:List Sc.Y→World→Prop) (W:World) (hJ:AbidesFrom W.heap.size J)
  (hY:∀ pre x W1,J pre W1→pre.length < s.size+1→YieldAt Fence.wide (n - 1) Tryz.prog l (Sc.encs x) W1 fun e W' =>
    (e = .returned (.bool true)∧J (pre++[x]) W'∧Kp n₀ Bn W1 W')∨(e = .returned (.bool false)∧Jx (pre++[x]) W'))
  (hBn:Bn < W.heap.size) (h2:2 < n₀) (hn₀:n₀≤W.heap.size) (hcn:W.cell? ⟨Bn,0,none⟩=some (.string s)) (hG:Glob W) (h0:J [] W) :
  CallsIn Fence.wide n Tryz.prog 24 #[.func (.yield l) #[] #[],.pointer (some ⟨Bn,0,none⟩)] W fun e W'=>(∃ v,e = .returned v) ∧
   ((∃ ys,ys=Sc.seq s.data.toList 0∧J ys W')∨(∃ pre,pre <+: Sc.seq s.data.toList 0∧Jx pre W')):=by
 have hfw:∀ f,Fence.wide.fn f:=fun _=>trivial
 have hn1:1≤n:=by omega
 refine callsIn_of_wp Tryz.func24 rfl trivial ?_ rfl
 simp only [Tryz.ntmps24,List.size_toArray,List.length_cons,List.length_nil,Nat.reduceAdd,Nat.reduceSub,Array.replicate_succ,Array.replicate_zero,List.push_toArray,List.append_toArray,List.nil_append,List.cons_append]
 refine wpIn_wide.2 (wp_scope_straight ((wpIn_wide (n:=n)).1 ?_))
 gi_wp2_with (gi_at_call 25;refine (callsIn_wide.2 (wordSet_any _)).mono ?_;rintro e w1 ⟨rfl,hm,hb⟩)
 apply wpIn_label
 gi_wp2
 gi_loopw [4] (fun t wr=>∃ (k:Nat) (pre:List Sc.Y),k≤s.size∧t = .int .i64 k∧Sc.seq s.data.toList 0=pre++Sc.seq s.data.toList k∧J pre wr∧wr.cell? ⟨Bn,0,none⟩=some (.string s)∧wr.ownsMap (H:=Unit) Tryz.prog 9 unitElem W.heap.size 17 Sc.wordMap∧Glob wr∧pre.length≤k∧W.heap.size≤wr.heap.size)
  (fun t _=>s.size - (intOf t).toNat)
 case atStart =>
  exact ⟨0,[],Nat.zero_le _,rfl,rfl,hJ _ _ _ none h0 (below_grown hb) (fun r e=>by cases e),(hb.cell (p:=⟨Bn,0,none⟩) (by show Bn < _;omega)).trans hcn,hm,hG.below hb (by omega),Nat.zero_le _,hb.size⟩
 case round =>
  obtain ⟨k,pre,hk,rfl,hx,hJs,hcw,hmw,hGw,hlen,hszw⟩:=hrel
  obtain ⟨wo,rfl⟩:∃ wo:World,wo=wr:=⟨_,rfl⟩
  have HX:=hide hx
  clear hx
  gi_wp2
  gi_loopw [4] (fun t w2=>∃ j:Nat,k≤j∧j≤s.size∧t = .int .i64 j∧k+Sc.gapLen false (s.data.toList.drop k)=j+Sc.gapLen false (s.data.toList.drop j)∧w2=wo) (fun t _=>s.size - (intOf t).toNat)
  case atStart=>exact ⟨k,Nat.le_refl _,hk,rfl,rfl,rfl⟩
  case round =>
   obtain ⟨j,hkj,hj,rfl,hgp,rfl⟩:=hrel
   have HGP:=hide hgp
   clear hgp
   by_cases hend:j=s.size
   ·have he:((j:Int) == (s.size:Int))=true:=by simp [hend]
    have HEND:=hide hend
    clear hend
    gi_wp2
    rw [Exit.noGoto_normal]
    go_end0
    refine ⟨⟨_,rfl⟩,.inl ⟨pre,?_,hJs⟩⟩
    have h1:=HEND.out
    have h2:=HGP.out
    rw [HX.out,Sc.seq_gap _ k j h2,Sc.seq_end _ j (by simp;omega),List.append_nil]
   ·have he:((j:Int) == (s.size:Int))=false:=by simp;omega
    have hlt:j < s.size:=by omega
    have hxl:(s.extract j s.size).size=s.size - j:=by simp
    have hG1:=gapSize_any (s.extract j s.size) wr (by omega)
    rw [Sc.ext_drop] at hG1
    have hsl:=Sc.gstep_le (s.data.toList.drop j)
    have hst:=Sc.gap_step (s.data.toList.drop j)
    have hz0:=Sc.gstep_zero (s.data.toList.drop j)
    simp only [List.length_drop,Array.length_toList] at hsl
    have hds:s.data.size=s.size:=rfl
    generalize Sc.gstep (s.data.toList.drop j)=gs at hG1 hsl hst hz0
    rw [hds] at hsl
    have HG1:=hide hG1
    have HST:=hide hst
    have HZ0:=hide hz0
    clear hG1 hst hz0 hds hxl
    by_cases hg0:gs=0
    ·have hgb:((gs:Int) == 0)=true:=by simp [hg0]
     have HG0:=hide hg0
     clear hg0
     gi_wp2_with (gi_at_call 26;refine (callsIn_wide.2 HG1.out).mono ?_;rintro e w3 ⟨rfl,hww⟩;rw [hww];clear hww)
     have hg00:Sc.gapLen false (s.data.toList.drop j)=0:=HZ0.out HG0.out
     have hsq:Sc.seq s.data.toList 0=pre++Sc.seq s.data.toList j:=by rw [HX.out,Sc.seq_gap _ k j HGP.out]
     have hR:=readToken_any (s.extract j s.size) W.heap.size wr (by simp;omega) (by simp;omega) hGw hmw
     rw [Sc.ext_drop] at hR
     by_cases hcode:(Sc.one (s.data.toList.drop j)).code=0
     ·have hsz:=Sc.one_size _ hcode
      have hft:=Sc.seq_tok s.data.toList j (by simpa using hlt) hg00 hcode
      have e:implOut (Sc.one (s.data.toList.drop j)) = .tuple #[.agg #[.int .i64 (Sc.one (s.data.toList.drop j)).kind,.string ⟨(Sc.one (s.data.toList.drop j)).text.toArray⟩,.int .i64 (Sc.one (s.data.toList.drop j)).n,.int .i64 0],.int .i64 (Sc.one (s.data.toList.drop j)).size,.int .i64 0]:=by
       unfold implOut;rw [if_pos hcode]
      rw [e] at hR
      clear e hcode
      generalize Sc.one (s.data.toList.drop j)=r at *
      simp only [List.length_drop,Array.length_toList] at hsz
      obtain ⟨hsz1,hsz2⟩:=hsz
      have hsz3:j+r.size≤s.size:=by have:s.data.size=s.size:=rfl;omega
      have HR:=hide hR
      have HFT:=hide hft
      have HSQ:=hide hsq
      clear hR hft hsq hsz2 hg00 hsl
      gi_wp2_with (gi_at_call 27;refine (callsIn_wide.2 HR.out).mono ?_;rintro e w1 ⟨rfl,hb⟩;have hJ1:J pre (w1.alloc (.cells #[.int .i64 r.kind,.string ⟨r.text.toArray⟩,.int .i64 r.n,.int .i64 j] 30)):=hJ _ _ _ none (hJ _ _ _ none hJs (below_grown hb) (fun r e=>by cases e)) (World.grownBy_alloc w1 _ none) (fun r e=>by cases e);obtain ⟨fn,tmps,assign,body,hy,hR2⟩:=hY pre (⟨r.kind,r.text,r.n,j⟩,0) _ hJ1 (by omega);simp only [Sc.encs,cast0] at hy)
      refine hR2.mono ?_
      rintro e W3 (⟨rfl,hJ3,hk3⟩ | ⟨rfl,hJx3⟩)
      ·have hB1:Below wr.heap.size wr (w1.alloc (.cells #[.int .i64 r.kind,.string ⟨r.text.toArray⟩,.int .i64 r.n,.int .i64 j] 30)):=hb.alloc hb.size _
       have HB1:=hide hB1
       clear hB1
       gi_wp2
       go_roundw
       case rel =>
        have hB1:=HB1.out
        refine ⟨j+r.size,pre++[(⟨r.kind,r.text,r.n,j⟩,0)],hsz3,by go_num,?_,hJ3,?_,?_,?_,by simp;omega,?_⟩
        ·rw [HSQ.out,HFT.out];simp
        ·exact (World.cell?_of_block (a:=⟨Bn,0,none⟩) hk3.2.2).trans ((hB1.cell (p:=⟨Bn,0,none⟩) (by show Bn < _;omega)).trans hcw)
        ·exact map_keeps (map_keeps hmw (below_walks hB1)) hk3.2.1
        ·exact (hGw.below hB1 (by omega)).below hk3.1 h2
        ·have:=hk3.1.size;have:=hB1.size;omega
       case measure=>simp [intOf];omega
      ·gi_wp2
       rw [Exit.noGoto_normal]
       go_end0
       exact ⟨⟨_,rfl⟩,.inr ⟨_,⟨Sc.seq s.data.toList (j+r.size),by rw [HSQ.out,HFT.out];simp⟩,hJx3⟩⟩
     ·have hft:=Sc.seq_bad s.data.toList j (by simpa using hlt) hg00 hcode
      have e:implOut (Sc.one (s.data.toList.drop j)) = .tuple #[.agg #[.int .i64 0,.string ⟨#[]⟩,.int .i64 0,.int .i64 0],.int .i64 0,.int .i64 (Sc.one (s.data.toList.drop j)).code]:=by
       unfold implOut;rw [if_neg hcode]
      rw [e] at hR
      have hcb:(((Sc.one (s.data.toList.drop j)).code:Int) != 0)=true:=by simp [hcode]
      clear e hcode
      generalize Sc.one (s.data.toList.drop j)=r at *
      have HR:=hide hR
      have HFT:=hide hft
      have HSQ:=hide hsq
      clear hR hft hsq hg00 hsl
      gi_wp2_with (gi_at_call 27;refine (callsIn_wide.2 HR.out).mono ?_;rintro e w1 ⟨rfl,hb⟩;have hJ1:J pre (w1.alloc (.cells #[.int .i64 0,.string ⟨#[]⟩,.int .i64 0,.int .i64 j] 30)):=hJ _ _ _ none (hJ _ _ _ none hJs (below_grown hb) (fun r e=>by cases e)) (World.grownBy_alloc w1 _ none) (fun r e=>by cases e);obtain ⟨fn,tmps,assign,body,hy,hR2⟩:=hY pre (⟨0,[],0,j⟩,r.code) _ hJ1 (by omega);simp only [Sc.encs,cast0] at hy)
      refine hR2.mono ?_
      rintro e W3 (⟨rfl,hJ3,hk3⟩ | ⟨rfl,hJx3⟩)
      ·gi_wp2
       rw [Exit.noGoto_normal]
       go_end0
       exact ⟨⟨_,rfl⟩,.inl ⟨_,by rw [HSQ.out,HFT.out],hJ3⟩⟩
      ·gi_wp2
       rw [Exit.noGoto_normal]
       go_end0
       exact ⟨⟨_,rfl⟩,.inr ⟨_,⟨[],by rw [HSQ.out,HFT.out];simp⟩,hJx3⟩⟩
    ·have hgb:((gs:Int) == 0)=false:=by simp [hg0]
     gi_wp2_with (gi_at_call 26;refine (callsIn_wide.2 HG1.out).mono ?_;rintro e w3 ⟨rfl,hww⟩;rw [hww];clear hww)
     go_roundw
     case rel =>
      refine ⟨j+gs,by omega,by omega,by go_num,?_,by first | rfl | trivial⟩
      have e:=HST.out
      rw [List.drop_drop] at e
      have:=HGP.out
      omega
     case measure=>simp [intOf];omega
theorem each_stops (n:Nat) (hn:3≤n) (Bn n₀:Nat) (s:ByteArray) (hs:s.size≤8000) (w:World) (hBn:Bn < w.heap.size) (h2:2 < n₀) (hn₀:n₀≤w.heap.size) (hcn:w.cell? ⟨Bn,0,none⟩=some (.string s)) (hG:Glob w) :
  SeqStopsK Fence.wide n Tryz.prog 24 #[.pointer (some ⟨Bn,0,none⟩)] Sc.encs (Kp n₀ Bn) (fun ys=>ys=Sc.seq s.data.toList 0) (fun pre=>pre <+: Sc.seq s.data.toList 0) (s.size+1) w:=fun l J Jx W hW hJ _ hY h0 =>
 each1_in n hn l Bn n₀ s hs J Jx W hJ hY (Nat.lt_of_lt_of_le hBn hW.size) h2 (Nat.le_trans hn₀ hW.size) ((hW.cell (p:=⟨Bn,0,none⟩) hBn).trans hcn) (hG.below hW (Nat.lt_of_lt_of_le h2 hn₀)) h0
end Go.Proofs.YtbckhbeebngjfaaGreatDoor
