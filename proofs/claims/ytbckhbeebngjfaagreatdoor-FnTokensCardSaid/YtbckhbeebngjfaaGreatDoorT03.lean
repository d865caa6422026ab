/- Ie, If, Tk1, Tk2, Vn. -/
import Derived.Test.YtbckhbeebngjfaaGreatDoorT02
import Derived.Test.YtbckhbeebngjfaaGreatDoorT01
import Derived.Deep.QuietTactic
import Derived.BigQuiet
import Derived.Deep.RegionWith
namespace Go.Proofs.YtbckhbeebngjfaaGreatDoor
open Go.RowKit
theorem Sc.pre_eq (s:ByteArray) (k:Nat) (m:List UInt8):m.isPrefixOf (s.data.toList.drop k)=((s.extract k (k+m.length)).toList == m):=by
 rw [Lib.extract_toList,show k+m.length - k=m.length from by omega,Bool.eq_iff_iff,List.isPrefixOf_iff_prefix,List.prefix_iff_eq_take,beq_iff_eq]
 exact ⟨fun h=>h.symm,fun h=>h.symm⟩
theorem Sc.pre_long (s:ByteArray) (k:Nat) (m:List UInt8) (h1:1≤m.length) (h:¬ k+m.length≤s.size):m.isPrefixOf (s.data.toList.drop k)=false:=by
 rw [Bool.eq_false_iff]
 intro hp
 have:=(List.isPrefixOf_iff_prefix.1 hp).length_le
 simp at this
 omega
theorem Sc.mark_hit (l:List UInt8) (i:Nat) (hi:i < Sc.marks.length) (h1:∀ (j:Nat) (h:j < Sc.marks.length),j < i→(Sc.marks[j]).isPrefixOf l=false) (h2:(Sc.marks[i]).isPrefixOf l=true) :
  Sc.oneMark l=⟨0,5,Sc.marks[i],0,(Sc.marks[i]).length⟩:=by
 have:Sc.marks.find? (fun m=>m.isPrefixOf l)=some Sc.marks[i]:=by
  rw [List.find?_eq_some_iff_getElem]
  exact ⟨h2,i,hi,rfl,fun j hj=>by simp [h1 j (by omega) hj]⟩
 unfold Sc.oneMark;rw [this]
theorem Sc.mark_none (l:List UInt8) (h1:∀ (j:Nat) (h:j < Sc.marks.length),j < 23→(Sc.marks[j]).isPrefixOf l=false):Sc.oneMark l=Sc.bad 2:=by
 have:Sc.marks.find? (fun m=>m.isPrefixOf l)=none:=by
  rw [List.find?_eq_none]
  intro x hx
  obtain ⟨j,hj,rfl⟩:=List.getElem_of_mem hx
  simp [h1 j hj hj]
 unfold Sc.oneMark;rw [this]
set_option maxRecDepth 100000 in
set_option maxHeartbeats 1000000 in
theorem one_mark (s:ByteArray) (k:Nat) (w:World) (hs:s.size≤1048576) (hk:k < s.size) (hd:Sc.dig s[k]=false) (hbg:Sc.beg s[k]=false) (hq:((s[k].toNat:Int) == 34)=false) :
  Calls Tryz.prog 15 #[.string s,.int .i64 k] w fun e w'=>e = .returned (oneOut k (Sc.one (s.data.toList.drop k)))∧Below w.heap.size w w':=by
 rw [Sc.one_mark s k hk hd hbg (by simp at hq;omega)]
 go_enter Tryz.func15,Tryz.ntmps15
 go_wp2_with (first | (go_at_call 28;refine (digit_any _ _).mono ?_;rintro e w' ⟨rfl,rfl⟩) | (go_at_call 30;refine (begins_any _ _).mono ?_;rintro e w' ⟨rfl,rfl⟩) | (go_at_call 23;refine (marks_any _).mono ?_;rintro e w1 ⟨rfl,hb,hz,hli⟩;obtain ⟨hc,hf⟩:=bcell hb;rw [World.size_alloc] at hli hz))
 have HLI:=hide hli
 clear hli
 go_loop [13] (fun t=>∃ i:Nat,i≤23∧t = .int .i64 i∧∀ (j:Nat) (h:j < Sc.marks.length),j < i→(Sc.marks[j]).isPrefixOf (s.data.toList.drop k)=false) (fun t=>23 - (intOf t).toNat)
 case atStart=>exact ⟨0,by omega,rfl,fun j _ h=>by omega⟩
 case round =>
  obtain ⟨i,hi,rfl,he⟩:=hrel
  have HE:=hide he
  clear he
  by_cases hlt:i < 23
  ·have hci:=HLI.out i hlt
   have hmp:=Sc.marks_pos Sc.marks[i] (List.getElem_mem _)
   obtain ⟨m,hm⟩:∃ m,m=Sc.marks[i]:=⟨_,rfl⟩
   rw [← hm] at hci hmp
   have HM:=hide hm
   clear hm
   obtain ⟨hm1,hm2⟩:=hmp
   by_cases hsz:k+m.length≤s.size
   ·cases hp:((s.extract k (k+m.length)).toList == m)
    ·have HP:Hid (m.isPrefixOf (s.data.toList.drop k)=false):=hide ((Sc.pre_eq s k m).trans hp)
     go_wp2
     go_round
     case rel =>
      refine ⟨i+1,by omega,by go_num,?_⟩
      intro j hj hji
      by_cases e:j=i
      ·subst e;have h:=HP.out;rw [HM.out] at h;exact h
      ·exact HE.out j hj (by omega)
     case measure=>simp [intOf];omega
    ·have HO:Hid (Sc.oneMark (s.data.toList.drop k)=⟨0,5,m,0,m.length⟩):=hide (by have h:=HM.out;rw [h];exact Sc.mark_hit _ i hlt HE.out (by rw [← h];exact (Sc.pre_eq s k m).trans hp))
     go_wp2
     have hb0:Below w.heap.size w w1:=(bA _).trans (hb.mono (by simp))
     refine bodyPost_ret (v:= .tuple #[.agg #[.int .i64 5,.string ⟨m.toArray⟩,.int .i64 0,.int .i64 k],.int .i64 ((k:Int)+m.length),.int .i64 0]) (by simp [results,Tryz.results15,go_sem,hc]) rfl ⟨by rw [oneOut_good HO.out];rfl,?_⟩
     exact below4 hb0 (Nat.le_refl _)
   ·have HP:Hid (m.isPrefixOf (s.data.toList.drop k)=false):=hide (Sc.pre_long s k m hm1 hsz)
    go_wp2
    go_round
    case rel =>
     refine ⟨i+1,by omega,by go_num,?_⟩
     intro j hj hji
     by_cases e:j=i
     ·subst e;have h:=HP.out;rw [HM.out] at h;exact h
     ·exact HE.out j hj (by omega)
    case measure=>simp [intOf];omega
  ·have HO:Hid (Sc.oneMark (s.data.toList.drop k)=Sc.bad 2):=hide (Sc.mark_none _ (fun j h hj=>HE.out j h (by omega)))
   go_wp2
   have hb0:Below w.heap.size w w1:=(bA _).trans (hb.mono (by simp))
   refine bodyPost_ret (v:= .tuple #[.agg #[.int .i64 0,.string ⟨#[]⟩,.int .i64 0,.int .i64 0],.int .i64 0,.int .i64 2]) (by simp [results,Tryz.results15,go_sem,hc]) rfl ⟨by rw [oneOut_bad HO.out (by decide)];rfl,?_⟩
   exact below4 hb0 (Nat.le_refl _)
theorem one_any (s:ByteArray) (k:Nat) (a:Int) (w:World) (hs:s.size≤1048576) (hk:k < s.size) (ha:a=(k:Int)) :
  Calls Tryz.prog 15 #[.string s,.int .i64 a] w fun e w'=>e = .returned (oneOut k (Sc.one (s.data.toList.drop k)))∧Below w.heap.size w w':=by
 subst ha
 cases hd:Sc.dig s[k]
 ·cases hb:Sc.beg s[k]
  ·cases hq:((s[k].toNat:Int) == 34)
   ·exact one_mark s k w hs hk hd hb hq
   ·exact one_text s k w hs hk hd hb hq
  ·exact one_name s k w hs hk hd hb
 ·exact one_num s k w hs hk hd
def Sc.T.cells (x:Sc.T):List Value:=[.int .i64 x.kind,.string ⟨x.text.toArray⟩,.int .i64 x.n,.int .i64 x.place]
def Sc.cellsOf (l:List Sc.T):List Value:=l.flatMap Sc.T.cells
theorem Sc.cellsOf_snoc (l:List Sc.T) (x:Sc.T):Sc.cellsOf (l++[x])=Sc.cellsOf l++x.cells:=by simp [Sc.cellsOf]
theorem Sc.cellsOf_len (l:List Sc.T):(Sc.cellsOf l).length=l.length*4:=by
 induction l with
 | nil=>rfl
 | cons x r ih=>simp only [Sc.cellsOf,List.flatMap_cons,List.length_append,List.length_cons] at ih ⊢;rw [ih];simp [Sc.T.cells];omega
theorem Tryz.infoS33:(Tryz.prog.info? 30).map (fun i=>(i.zero,i.size,i.bytes))=some (some (.agg #[.int .i64 0,.string ⟨#[]⟩,.int .i64 0,.int .i64 0]),4,40):=by kernel_rfl
def Sc.toks (s:ByteArray):List Sc.T:=if 8000 < s.size then [] else if (Sc.from_ s.data.toList 0).2.1=0 then (Sc.from_ s.data.toList 0).1 else []
def Sc.code (s:ByteArray):Nat:=if 8000 < s.size then 1 else (Sc.from_ s.data.toList 0).2.1
def Sc.at_ (s:ByteArray):Nat:=if 8000 < s.size then 0 else (Sc.from_ s.data.toList 0).2.2
theorem cells_new (w:World) (cs:List Value) (t:TypeId) (j:Nat) (u:Value) (h:cs[j]?=some u):(w.alloc (.cells cs.toArray t)).cell? ((⟨w.heap.size,0,none⟩:Addr).add j)=some u:=by
 have e:((⟨w.heap.size,0,none⟩:Addr).add j)=⟨w.heap.size,j,none⟩:=by simp [Addr.add];exact fun h=>h.symm
 rw [e,World.cell?,heap_alloc_new']
 simpa using h
theorem size_setCell' (w:World) (a:Addr) (v:Value):(w.setCell a v).heap.size=w.heap.size:=by simp [World.setCell]
theorem row_below {w w1:World} {base:Nat} {e:TypeId} {size:Nat} {v:Value} {n:Nat} {xs:List Value} (h:w.ownsRow base e size v n xs) (hb:Below w.heap.size w w1):w1.ownsRow base e size v n xs:=by
 have hg:w.grownBy w1 none:=⟨hb.os,hb.tape,hb.output,hb.size,fun k hk _=>hb.block k hk⟩
 refine h.kept hg ?_
 cases hv:v.ownBlock with
 | none=>exact .inl rfl
 | some k=>exact .inr (by simp)
theorem row_mono {w:World} {base base':Nat} {e:TypeId} {size:Nat} {v:Value} {n:Nat} {xs:List Value} (h:w.ownsRow base e size v n xs) (hb:base'≤base):w.ownsRow base' e size v n xs:=by
 refine ⟨h.1,?_⟩
 rcases h.2 with h | ⟨g,cap,cur,h1,h2,h3⟩
 ·exact .inl h
 ·exact .inr ⟨g,cap,cur,h1,Nat.le_trans hb h2,h3⟩
theorem app2_step {w wr w1:World} {base:Nat} {o1 o2:Obj} {v:Value} {n:Nat} {xs:List Value} (hown:wr.ownsRow base 30 4 v n xs) (hB:Below base w wr) (hs:base≤wr.heap.size)
  (hg:((wr.alloc o1).alloc o2).grownBy w1 v.ownBlock):Below base w w1 :=
 ((hB.alloc hs _).alloc (by simp;omega) _).grown hg (by simp;omega) (fun k e=>(hown.lt k e).1)
theorem code_big {s:ByteArray} (h:8000 < s.size):Sc.code s=1∧Sc.at_ s=0∧Sc.toks s=[]:=by simp [Sc.code,Sc.at_,Sc.toks,h]
theorem code_small {s:ByteArray} (h:¬ 8000 < s.size):Sc.code s=(Sc.from_ s.data.toList 0).2.1∧Sc.at_ s=(Sc.from_ s.data.toList 0).2.2∧Sc.toks s=if (Sc.from_ s.data.toList 0).2.1=0 then (Sc.from_ s.data.toList 0).1 else []:=by simp [Sc.code,Sc.at_,Sc.toks,h]
theorem fin_ok {s:ByteArray} {ts:List Sc.T} {k:Nat} (h:Sc.code s=(Sc.from_ s.data.toList 0).2.1∧Sc.at_ s=(Sc.from_ s.data.toList 0).2.2∧Sc.toks s=if (Sc.from_ s.data.toList 0).2.1=0 then (Sc.from_ s.data.toList 0).1 else [])
  (he:Sc.from_ s.data.toList 0=(ts++(Sc.from_ s.data.toList k).1,(Sc.from_ s.data.toList k).2)) (hf:Sc.from_ s.data.toList k=([],0,0)):Sc.code s=0∧Sc.at_ s=0∧Sc.toks s=ts:=by
 rw [he,hf] at h;simpa using h
theorem fin_bad {s:ByteArray} {ts:List Sc.T} {k c:Nat} (h:Sc.code s=(Sc.from_ s.data.toList 0).2.1∧Sc.at_ s=(Sc.from_ s.data.toList 0).2.2∧Sc.toks s=if (Sc.from_ s.data.toList 0).2.1=0 then (Sc.from_ s.data.toList 0).1 else [])
  (he:Sc.from_ s.data.toList 0=(ts++(Sc.from_ s.data.toList k).1,(Sc.from_ s.data.toList k).2)) (hf:Sc.from_ s.data.toList k=([],c,k)) (hc:c≠0):Sc.code s=c∧Sc.at_ s=k∧Sc.toks s=[]:=by
 rw [he,hf] at h;simpa [hc] using h
set_option maxRecDepth 100000 in
set_option maxHeartbeats 1000000 in
theorem sscan_any (s:ByteArray) (w:World) (hs:s.size≤1048576) :
  Calls Tryz.prog 6 #[.string s] w fun e w'=>∃ v,e = .returned (.tuple #[v,.agg #[.int .i64 (Sc.code s),.int .i64 (Sc.at_ s)]])∧w'.ownsRow w.heap.size 30 4 v (Sc.toks s).length (Sc.cellsOf (Sc.toks s))∧Below w.heap.size w w':=by
 obtain ⟨i0,hi,hz0,hz1,hz2⟩:=info_parts Tryz.infoS33
 by_cases hbig:8000 < s.size
 ·obtain ⟨c1,c2,c3⟩:=code_big hbig
  rw [c1,c2,c3]
  clear c1 c2 c3
  go_enter Tryz.func6,Tryz.ntmps6
  go_wp2
  refine bodyPost_ret (v:= .tuple #[.slice (some ⟨w.heap.size+1,0,none⟩) 0 0,.agg #[.int .i64 1,.int .i64 0]]) (by simp [results,Tryz.results6,go_sem]) rfl ⟨_,rfl,?_,?_⟩
  ·have:=World.ownsRow_lit (base:=w.heap.size) (e:=30) (size:=4) (w.alloc (.cells #[.int .i64 1,.int .i64 0] 26)) #[] 0 (by simp) (Nat.zero_le _) rfl
   rw [World.size_alloc] at this
   exact this
  ·exact (bA _).alloc (by simp) _
 ·have h0:=fun w=>gap_any s 0 0 w hs (Nat.zero_le _) rfl
  have H0:=hide h0
  clear h0
  have hg0:=hide (Sc.gapLen_le false s.data.toList)
  have HC:=hide (code_small hbig)
  go_enter Tryz.func6,Tryz.ntmps6
  go_wp2_with (go_at_call 14;refine (H0.out _).mono ?_;rintro e w' ⟨rfl,rfl⟩)
  go_loopw [4,5] (fun v t wr=>∃ (k:Nat) (ts:List Sc.T),k≤s.size∧t = .int .i64 k∧Sc.gapLen false (s.data.toList.drop k)=0∧wr.ownsRow (w.heap.size+1) 30 4 v ts.length (Sc.cellsOf ts)∧Below w.heap.size w wr∧w.heap.size < wr.heap.size ∧
    wr.cell? ⟨w.heap.size,0,none⟩=some (.int .i64 0)∧wr.cell? ⟨w.heap.size,1,none⟩=some (.int .i64 0)∧wr.frozen? ⟨w.heap.size,0,none⟩=false∧wr.frozen? ⟨w.heap.size,1,none⟩=false∧ts.length≤k ∧
    Sc.from_ s.data.toList 0=(ts++(Sc.from_ s.data.toList k).1,(Sc.from_ s.data.toList k).2)) (fun _ t _=>s.size - (intOf t).toNat)
  case atStart =>
   have hg:=hg0.out
   refine ⟨Sc.gapLen false s.data.toList,[],by simpa using hg,rfl,Sc.gap_gap _ _,?_,?_,by simp;omega,by simp,by simp,by simp,by simp,Nat.zero_le _,?_⟩
   ·have:=World.ownsRow_lit (base:=w.heap.size+1) (e:=30) (size:=4) (w.alloc (.cells #[.int .i64 0,.int .i64 0] 26)) #[] 0 (by simp) (Nat.zero_le _) rfl
    rw [World.size_alloc] at this
    exact this
   ·exact (bA _).alloc (by simp) _
   ·have:=Sc.from_gap s.data.toList 0 (by simpa using Sc.gap_gap false s.data.toList)
    simp only [List.drop_zero,Nat.zero_add] at this
    rw [← this];simp
  case round =>
   obtain ⟨k,ts,hk,rfl,hgk,hown,hB,hlt0,hc0,hc1,hf0,hf1,hlen,he⟩:=hrel
   have HE:=hide he
   have HG:=hide hgk
   clear he hgk
   by_cases hlt:k < s.size
   ·have hO:=fun w=>one_any s k k w hs hlt rfl
    by_cases hcode:(Sc.one (s.data.toList.drop k)).code=0
    ·have hsz:=Sc.one_size _ hcode
     have hft:=Sc.from_tok s.data.toList k (by simpa using hlt) HG.out hcode
     have e:oneOut k (Sc.one (s.data.toList.drop k)) = .tuple #[.agg #[.int .i64 (Sc.one (s.data.toList.drop k)).kind,.string ⟨(Sc.one (s.data.toList.drop k)).text.toArray⟩,.int .i64 (Sc.one (s.data.toList.drop k)).n,.int .i64 k],.int .i64 ((k:Int)+(Sc.one (s.data.toList.drop k)).size),.int .i64 0]:=by
      unfold oneOut;rw [if_pos hcode]
     rw [e] at hO
     clear e hcode
     generalize Sc.one (s.data.toList.drop k)=r at *
     have HO:=hide hO
     have HFT:=hide hft
     obtain ⟨hsz1,hsz2⟩:=hsz
     simp only [List.length_drop,Array.length_toList] at hsz2
     have hsz3:k+r.size≤s.size:=by have:s.data.size=s.size:=rfl;omega
     clear hO hft hsz2
     go_wp2_with (first
      | (go_at_call 15;refine (HO.out _).mono ?_;rintro e w1 ⟨rfl,hb⟩;obtain ⟨hc,hf⟩:=bcell hb;have hlt1:w.heap.size < w1.heap.size:=Nat.lt_of_lt_of_le hlt0 hb.size;have hown1:=row_below hown hb)
      | (at_builtin;refine wpList_append_own _ rfl _ _ 24 rfl (w.heap.size+1) 30 i0 (.agg #[.int .i64 0,.string ⟨#[]⟩,.int .i64 0,.int .i64 0]) 4 40 Tryz.underlying24 hi hz0 hz1 hz2 rfl (by decide) _ _ _ rfl ((hown1.alloc _).alloc _) ⟨w1.heap.size+1,0,none⟩ 1 1 [.int .i64 r.kind,.string ⟨r.text.toArray⟩,.int .i64 r.n,.int .i64 k] rfl rfl ?_ ?_ ?_ ?_ ?_ ?_))
     ·intro j u h
      have:=cells_new (w1.alloc (.cells #[.int .i64 r.kind,.string ⟨r.text.toArray⟩,.int .i64 r.n,.int .i64 k] 30)) _ 30 j u h
      rw [World.size_alloc] at this
      exact this
     ·simp [Value.oneCell']
     ·unfold maxLen;omega
     ·omega
     ·simp;omega
     ·intro v' w2 hown' hgrow _
      have hB2:Below w.heap.size w w2:=((app2_step hown1 ((Below.refl _ _)) (by omega) hgrow).mono (by omega)) |> fun h=>(hB.trans (hb.mono (by omega))).trans h
      have hlt2:w.heap.size < w2.heap.size:=by have:=hgrow.size;simp at this;omega
      have hb2:Below (w.heap.size+1) w1 w2:=app2_step hown1 ((Below.refl _ _)) (by omega) hgrow
      have q0:w2.cell? ⟨w.heap.size,0,none⟩=some (.int .i64 0):=(hb2.cell (p:=⟨w.heap.size,0,none⟩) (Nat.lt_succ_self _)).trans ((hc _ _ hlt0).trans hc0)
      have q1:w2.cell? ⟨w.heap.size,1,none⟩=some (.int .i64 0):=(hb2.cell (p:=⟨w.heap.size,1,none⟩) (Nat.lt_succ_self _)).trans ((hc _ _ hlt0).trans hc1)
      have q2:w2.frozen? ⟨w.heap.size,0,none⟩=false:=(hb2.frozen (p:=⟨w.heap.size,0,none⟩) (Nat.lt_succ_self _)).trans ((hf _ _ hlt0).trans hf0)
      have q3:w2.frozen? ⟨w.heap.size,1,none⟩=false:=(hb2.frozen (p:=⟨w.heap.size,1,none⟩) (Nat.lt_succ_self _)).trans ((hf _ _ hlt0).trans hf1)
      clear hgrow hb2 hc hf hc0 hc1 hf0 hf1 hown hown1
      go_wp2_with (go_at_call 14;refine (gap_any s (k+r.size) _ _ hs hsz3 (by omega)).mono ?_;rintro e w3 ⟨rfl,rfl⟩)
      go_roundw
      case rel =>
       have hgl:=Sc.gapLen_le false (s.data.toList.drop (k+r.size))
       have hgg:Sc.gapLen false (s.data.toList.drop (k+r.size+Sc.gapLen false (s.data.toList.drop (k+r.size))))=0:=by have:=Sc.gap_gap false (s.data.toList.drop (k+r.size));rwa [List.drop_drop] at this
       simp only [List.length_drop,Array.length_toList] at hgl
       have hds:s.data.size=s.size:=rfl
       refine ⟨k+r.size+Sc.gapLen false (s.data.toList.drop (k+r.size)),ts++[⟨r.kind,r.text,r.n,k⟩],by omega,by go_num,hgg,?_,hB2,hlt2,q0,q1,q2,q3,by simp;omega,?_⟩
       ·rw [Sc.cellsOf_snoc,List.length_append];exact hown'
       ·rw [HE.out,HFT.out,← Sc.from_gap s.data.toList (k+r.size) hgg];simp
      case measure=>simp [intOf];omega
    ·have hft:=Sc.from_bad s.data.toList k (by simpa using hlt) HG.out hcode
     have e:oneOut k (Sc.one (s.data.toList.drop k)) = .tuple #[.agg #[.int .i64 0,.string ⟨#[]⟩,.int .i64 0,.int .i64 0],.int .i64 0,.int .i64 (Sc.one (s.data.toList.drop k)).code]:=by
      unfold oneOut;rw [if_neg hcode]
     rw [e] at hO
     have hcb:(((Sc.one (s.data.toList.drop k)).code:Int) != 0)=true:=by simp [hcode]
     clear e
     generalize Sc.one (s.data.toList.drop k)=r at *
     have HO:=hide hO
     have HFT:=hide hft
     have HCD:=hide hcode
     clear hO hft hcode
     go_wp2_with (go_at_call 15;refine (HO.out _).mono ?_;rintro e w1 ⟨rfl,hb⟩;obtain ⟨hc,hf⟩:=bcell hb;have hlt1:w.heap.size < w1.heap.size:=Nat.lt_of_lt_of_le hlt0 hb.size)
     refine bodyPost_ret (v:= .tuple #[.slice (some ⟨w1.heap.size+1,0,none⟩) 0 0,.agg #[.int .i64 r.code,.int .i64 k]]) (by simp [results,Tryz.results6,go_sem,hc,hc0,hc1,hlt0,hlt1]) rfl ⟨.slice (some ⟨w1.heap.size+1,0,none⟩) 0 0,?_,?_,?_⟩
     ·have h:=fin_bad HC.out HE.out HFT.out HCD.out;rw [h.1,h.2.1]
     ·have h:=fin_bad HC.out HE.out HFT.out HCD.out
      rw [h.2.2]
      have:=World.ownsRow_lit (base:=w.heap.size) (e:=30) (size:=4) (((w1.setCell ⟨w.heap.size,0,none⟩ (.int .i64 r.code)).setCell ⟨w.heap.size,1,none⟩ (.int .i64 k)).alloc (.cells #[.int .i64 0,.string ⟨#[]⟩,.int .i64 0,.int .i64 0] 30)) #[] 0 (by simp [World.setCell];omega) (Nat.zero_le _) rfl
      simp only [World.size_alloc,size_setCell'] at this
      exact this
     ·have hB1:=hB.trans (hb.mono (Nat.le_of_lt hlt0))
      exact ((((hB1.setCell (p:=⟨w.heap.size,0,none⟩) (Nat.le_refl _) _).setCell (p:=⟨w.heap.size,1,none⟩) (Nat.le_refl _) _).alloc (by simp;omega) _).alloc (by simp;omega) _)
   ·have hft:=hide (Sc.from_end s.data.toList k (by simp;omega))
    go_wp2
    refine bodyPost_ret (v:= .tuple #[u4,.agg #[.int .i64 0,.int .i64 0]]) (by simp [results,Tryz.results6,go_sem,hc0,hc1]) rfl ⟨u4,?_,?_,?_⟩
    ·have h:=fin_ok HC.out HE.out hft.out;rw [h.1,h.2.1];rfl
    ·have h:=fin_ok HC.out HE.out hft.out;rw [h.2.2];exact row_mono (ownsRow_setCell_below (ownsRow_setCell_below hown (by simp) _) (by simp) _) (by omega)
    ·exact (hB.setCell (p:=⟨w.heap.size,0,none⟩) (Nat.le_refl _) _).setCell (p:=⟨w.heap.size,1,none⟩) (Nat.le_refl _) _
end Go.Proofs.YtbckhbeebngjfaaGreatDoor
namespace Go.Proofs.YtbckhbeebngjfaaGreatDoor.Sc
theorem takeWhile_takeM (p:UInt8→Bool):∀ (l:List UInt8) (m:Nat),(l.takeWhile p).length≤m→(l.take m).takeWhile p=l.takeWhile p
 | [],m,_=>by simp
 | b :: r,0,h=>by
  cases hb:p b
  ·simp [hb]
  ·simp [hb] at h
 | b :: r,m+1,h=>by
  rw [List.take_succ_cons]
  cases hb:p b
  ·simp [hb]
  ·simp only [List.takeWhile_cons,hb,if_true,List.length_cons] at h ⊢
   rw [takeWhile_takeM p r m (by omega)]
theorem unq_cons (b:UInt8) (r:List UInt8):unq (b :: r)=if b.toNat=34 then some ([],1)
  else if b.toNat=92 then
   (match r with
   | h :: lo :: r'=>if hexv h < 0∨hexv lo < 0 then none else (unq r').map fun p=>(UInt8.ofNat (16 * hexv h+hexv lo).toNat :: p.1,p.2+3)
   | _=>none)
  else if b.toNat < 32∨126 < b.toNat then none
  else (unq r).map fun p=>(b :: p.1,p.2+1):=by
 rw [unq.eq_def]
 match r with
 | []=>rfl
 | [_]=>rfl
 | _ :: _ :: _=>rfl
theorem unq_take:∀ (l t:List UInt8) (n m:Nat),unq l=some (t,n)→n≤m→unq (l.take m)=some (t,n)
 | [],t,n,m,h,_=>by simp [unq] at h
 | [b],t,n,m,h,hm=>by
  have hs:=unq_size [b] t n h
  obtain ⟨k,rfl⟩:∃ k,m=k+1:=⟨m - 1,by omega⟩
  simpa using h
 | b :: c :: r,t,n,m,h,hm=>by
  have hs:=unq_size (b :: c :: r) t n h
  obtain ⟨k,rfl⟩:∃ k,m=k+1:=⟨m - 1,by omega⟩
  rw [List.take_succ_cons]
  rw [unq_cons] at h ⊢
  by_cases h1:b.toNat=34
  ·rw [if_pos h1] at h ⊢;exact h
  ·rw [if_neg h1] at h ⊢
   by_cases h2:b.toNat=92
   ·rw [if_pos h2] at h ⊢
    cases r with
    | nil=>simp at h
    | cons lo r' =>
     simp only at h
     by_cases h3:hexv c < 0∨hexv lo < 0
     ·rw [if_pos h3] at h;cases h
     ·rw [if_neg h3] at h
      simp only [Option.map_eq_some_iff] at h
      obtain ⟨⟨t',n'⟩,hu,he⟩:=h
      simp only [Prod.mk.injEq] at he
      obtain ⟨rfl,rfl⟩:=he
      have hu1:=unq_size r' t' n' hu
      obtain ⟨k2,rfl⟩:∃ k2,k=k2+2:=⟨k - 2,by omega⟩
      rw [show (c :: lo :: r').take (k2+2)=c :: lo :: r'.take k2 from by simp [List.take_succ_cons]]
      simp only
      rw [if_neg h3,unq_take r' t' n' k2 hu (by omega)]
      rfl
   ·rw [if_neg h2] at h ⊢
    by_cases h3:b.toNat < 32∨126 < b.toNat
    ·rw [if_pos h3] at h;cases h
    ·rw [if_neg h3] at h ⊢
     simp only [Option.map_eq_some_iff] at h
     obtain ⟨⟨t',n'⟩,hu,he⟩:=h
     simp only [Prod.mk.injEq] at he
     obtain ⟨rfl,rfl⟩:=he
     have ih:=unq_take (c :: r) t' n' k hu (by omega)
     rw [ih];rfl
theorem prefix_take {m l:List UInt8} {k:Nat} (h:m.length≤k):m.isPrefixOf (l.take k)=m.isPrefixOf l:=by
 rw [Bool.eq_iff_iff,List.isPrefixOf_iff_prefix,List.isPrefixOf_iff_prefix]
 constructor
 ·exact fun h1=>h1.trans (List.take_prefix _ _)
 ·intro h1
  exact List.prefix_take_iff.2 ⟨h1,h⟩
theorem find_take (l:List UInt8) (k:Nat):∀ (ms:List (List UInt8)) (m:List UInt8),ms.find? (fun x=>x.isPrefixOf l)=some m→m.length≤k→ms.find? (fun x=>x.isPrefixOf (l.take k))=some m
 | [],m,h,_=>by simp at h
 | x :: r,m,h,hk=>by
  rw [List.find?_cons] at h ⊢
  cases hx:x.isPrefixOf l
  ·rw [hx] at h
   have:x.isPrefixOf (l.take k)=false:=by
    cases hy:x.isPrefixOf (l.take k)
    ·rfl
    ·rw [List.isPrefixOf_iff_prefix] at hy
     have:=(List.isPrefixOf_iff_prefix.2 (hy.trans (List.take_prefix _ _)))
     rw [hx] at this;cases this
   rw [this]
   exact find_take l k r m h hk
  ·rw [hx] at h
   cases h
   rw [prefix_take hk,hx]
theorem one_take (l:List UInt8) (m:Nat) (hc:(one l).code=0) (hm:(one l).size≤m):one (l.take m)=one l:=by
 have hs:=one_size l hc
 cases l with
 | nil=>simp
 | cons b r =>
  obtain ⟨k,rfl⟩:∃ k,m=k+1:=⟨m - 1,by omega⟩
  have ht:(b :: r).take (k+1)=b :: r.take k:=List.take_succ_cons
  unfold one at hc hm ⊢
  rw [ht]
  simp only at hc hm ⊢
  by_cases h1:dig b=true
  ·rw [if_pos h1] at hc hm ⊢
   rw [if_pos h1,← ht]
   unfold oneNum at hc hm ⊢
   by_cases hx:((b :: r).takeWhile nm).all dig=true∧numVal ((b :: r).takeWhile nm)≤9223372036854775807∧¬ ((b :: r).head?=some 48∧1 < ((b :: r).takeWhile nm).length)
   ·rw [if_pos hx] at hm
    rw [takeWhile_takeM nm (b :: r) (k+1) hm,ht,if_pos hx]
    rw [if_pos (by simpa using hx)]
   ·rw [if_neg hx] at hc;simp [bad] at hc
  ·rw [if_neg h1] at hc hm ⊢
   rw [if_neg h1]
   by_cases h2:beg b=true
   ·rw [if_pos h2] at hc hm ⊢
    rw [if_pos h2,← ht]
    have hle:((b :: r).takeWhile nm).length≤k+1:=by
     unfold oneName at hc hm
     split at hm
     ·exact hm
     ·split at hm
      ·rename_i h3 h4
       rw [if_neg h3,if_pos h4] at hc;simp [bad] at hc
      ·exact hm
    unfold oneName
    rw [takeWhile_takeM nm (b :: r) (k+1) hle]
   ·rw [if_neg h2] at hc hm ⊢
    rw [if_neg h2]
    by_cases h3:b.toNat=34
    ·rw [if_pos h3] at hc hm ⊢
     rw [if_pos h3]
     unfold oneText at hc hm ⊢
     simp only [List.tail_cons] at hc hm ⊢
     cases hu:unq r with
     | none=>rw [hu] at hc;simp [bad] at hc
     | some p =>
      rw [hu] at hc hm
      simp only at hc hm
      by_cases h4:1000 < p.1.length
      ·rw [if_pos h4] at hc;simp [bad] at hc
      ·rw [if_neg h4] at hm
       rw [unq_take r p.1 p.2 k hu (by simp only at hm;omega)]
    ·rw [if_neg h3] at hc hm ⊢
     rw [if_neg h3,← ht]
     unfold oneMark at hc hm ⊢
     cases hf:marks.find? (fun x=>x.isPrefixOf (b :: r)) with
     | none=>rw [hf] at hc;simp [bad] at hc
     | some x =>
      rw [hf] at hm
      rw [find_take (b :: r) (k+1) marks x hf hm]
theorem gap_take:∀ (b:Bool) (l:List UInt8) (m:Nat),m≤gapLen b l→gapLen b (l.take m)=m
 | _,[],m,h=>by simp [gapLen] at h;subst h;simp [gapLen]
 | b,c :: r,0,_=>by cases b <;> simp [gapLen]
 | false,c :: r,m+1,h=>by
  rw [List.take_succ_cons]
  rw [gapLen] at h ⊢
  by_cases h1:c.toNat=35
  ·rw [if_pos h1] at h ⊢
   rw [gap_take true r m (by omega)];omega
  ·rw [if_neg h1] at h ⊢
   by_cases h2:c.toNat=32∨c.toNat=10
   ·rw [if_pos h2] at h ⊢
    rw [gap_take false r m (by omega)];omega
   ·rw [if_neg h2] at h;omega
 | true,c :: r,m+1,h=>by
  rw [List.take_succ_cons]
  rw [gapLen] at h ⊢
  by_cases h1:c.toNat=10
  ·rw [if_pos h1] at h ⊢
   rw [gap_take false r m (by omega)];omega
  ·rw [if_neg h1] at h ⊢
   rw [gap_take true r m (by omega)];omega
theorem gap_zero_take {l:List UInt8} {m:Nat} (h:gapLen false l=0):gapLen false (l.take m)=0:=by
 cases l with
 | nil=>simp [gapLen]
 | cons c r =>
  cases m with
  | zero=>simp [gapLen]
  | succ m =>
   rw [List.take_succ_cons]
   rw [gapLen] at h ⊢
   by_cases h1:c.toNat=35
   ·rw [if_pos h1] at h;omega
   ·rw [if_neg h1] at h ⊢
    by_cases h2:c.toNat=32∨c.toNat=10
    ·rw [if_pos h2] at h;omega
    ·rw [if_neg h2]
theorem alone (x:List UInt8) (h0:gapLen false x=0) (hc:(one x).code=0) (f:Nat) (hf:2≤f) (h:Nat) (hh:h≤gapLen false (x.drop (one x).size)) :
  scan f 0 (x.take ((one x).size+h))=([⟨(one x).kind,(one x).text,(one x).n,0⟩],0,0):=by
 obtain ⟨g,rfl⟩:∃ g,f=g+2:=⟨f - 2,by omega⟩
 have hs:=one_size x hc
 have hg0:gapLen false (x.take ((one x).size+h))=0:=gap_zero_take h0
 have ho:=one_take x ((one x).size+h) hc (by omega)
 rw [scan,hg0,List.drop_zero]
 have hne:x.take ((one x).size+h)≠[]:=by
  intro e
  have:=congrArg List.length e
  rw [List.length_take,List.length_nil] at this
  omega
 rw [if_neg hne,ho,if_neg (by omega)]
 have hd:(x.take ((one x).size+h)).drop (one x).size=(x.drop (one x).size).take h:=by
  rw [List.drop_take];congr 1;omega
 have he:scan (g+1) (0+0+(one x).size) ((x.drop (one x).size).take h)=([],0,0):=by
  rw [scan,gap_take false _ h hh,if_pos]
  rw [List.drop_take,Nat.sub_self,List.take_zero]
 rw [hd,he]
end Go.Proofs.YtbckhbeebngjfaaGreatDoor.Sc
namespace Go.Proofs.YtbckhbeebngjfaaGreatDoor.Sc
theorem scan_head {f k:Nat} {l:List UInt8} {u:T} (h:(scan f k l).1[0]?=some u):u.place=k+gapLen false l:=by
 cases f with
 | zero=>simp [scan] at h
 | succ f =>
  rw [scan] at h
  split at h
  ·simp at h
  ·split at h
   ·simp at h
   ·simp only [List.getElem?_cons_zero,Option.some.injEq] at h
    rw [← h]
theorem scan_none {f k:Nat} {l:List UInt8} (hf:l.length < f) (hc:(scan f k l).2.1=0) (h:(scan f k l).1[0]?=none):gapLen false l=l.length:=by
 cases f with
 | zero=>omega
 | succ f =>
  rw [scan] at h hc
  split at h
  ·rename_i h1
   have:=gapLen_le false l
   have:=List.drop_eq_nil_iff.1 h1
   omega
  ·rename_i h1
   rw [if_neg h1] at hc
   split at h
   ·rename_i h2
    rw [if_pos h2] at hc
    exact absurd hc h2
   ·simp at h
def EndAt (ts:List T) (i e z:Nat):Prop:=(∃ u,ts[i+1]?=some u∧e=u.place)∨(ts[i+1]?=none∧e=z)
theorem scan_pieces:∀ (f k:Nat) (l:List UInt8),l.length < f→(scan f k l).2.1=0→∀ (i:Nat) (t:T),(scan f k l).1[i]?=some t→∀ e,EndAt (scan f k l).1 i e (k+l.length) →
  k≤t.place∧t.place < e∧e≤k+l.length∧∀ f',2≤f'→scan f' 0 ((l.drop (t.place - k)).take (e - t.place))=([⟨t.kind,t.text,t.n,0⟩],0,0)
 | 0,_,_,h,_,_,_,_,_,_=>by omega
 | f+1,k,l,hf,hc,i,t,hi,e,he=>by
  rw [scan] at hc hi he
  by_cases h1:l.drop (gapLen false l)=[]
  ·rw [if_pos h1] at hi;simp at hi
  ·rw [if_neg h1] at hc hi he
   by_cases h2:(one (l.drop (gapLen false l))).code≠0
   ·rw [if_pos h2] at hi;simp at hi
   ·rw [if_neg h2] at hc hi he
    have hx0:=gap_gap false l
    have hgl:=gapLen_le false l
    generalize hg:gapLen false l=g at *
    generalize hx:l.drop g=x at *
    have hxl:x.length=l.length - g:=by rw [← hx,List.length_drop]
    have hcx:(one x).code=0:=by omega
    have hs:=one_size x hcx
    have hl':(x.drop (one x).size).length=x.length - (one x).size:=List.length_drop
    have hlf:(x.drop (one x).size).length < f:=by omega
    simp only at hc hi he
    have IH:=scan_pieces f (k+g+(one x).size) (x.drop (one x).size) hlf hc
    have HH:=fun u=>scan_head (f:=f) (k:=k+g+(one x).size) (l:=x.drop (one x).size) (u:=u)
    have HN:=scan_none (f:=f) (k:=k+g+(one x).size) (l:=x.drop (one x).size) hlf hc
    generalize hts:(scan f (k+g+(one x).size) (x.drop (one x).size)).1=ts at *
    cases i with
    | zero =>
     simp only [List.getElem?_cons_zero,Option.some.injEq] at hi
     subst hi
     have hee:e=k+g+(one x).size+gapLen false (x.drop (one x).size):=by
      rcases he with ⟨u,hu,rfl⟩ | ⟨hu,rfl⟩
      ·rw [List.getElem?_cons_succ] at hu
       exact HH u hu
      ·rw [List.getElem?_cons_succ] at hu
       have:=HN hu
       omega
     have hgl2:=gapLen_le false (x.drop (one x).size)
     refine ⟨by simp only;omega,by simp only;omega,by omega,fun f' hf'=>?_⟩
     simp only
     rw [show k+g - k=g from by omega,hx,show e - (k+g)=(one x).size+gapLen false (x.drop (one x).size) from by omega]
     exact alone x hx0 hcx f' hf' _ (Nat.le_refl _)
    | succ j =>
     rw [List.getElem?_cons_succ] at hi
     have he':EndAt ts j e (k+g+(one x).size+(x.drop (one x).size).length):=by
      rcases he with ⟨u,hu,rfl⟩ | ⟨hu,rfl⟩
      ·rw [List.getElem?_cons_succ] at hu
       exact .inl ⟨u,hu,rfl⟩
      ·rw [List.getElem?_cons_succ] at hu
       exact .inr ⟨hu,by omega⟩
     obtain ⟨i1,i2,i3,i4⟩:=IH j t hi e he'
     refine ⟨by omega,i2,by omega,fun f' hf'=>?_⟩
     have:=i4 f' hf'
     rw [← hx,List.drop_drop,List.drop_drop] at this
     rw [show t.place - k=g+((one x).size+(t.place - (k+g+(one x).size))) from by omega]
     rw [hx] at this
     exact this
end Go.Proofs.YtbckhbeebngjfaaGreatDoor.Sc
namespace Go.Proofs.YtbckhbeebngjfaaGreatDoor
theorem Sc.piece_alone {s:ByteArray} (hc:Sc.code s=0) {i:Nat} {t:Sc.T} (hi:(Sc.toks s)[i]?=some t) {e:Nat} (he:Sc.EndAt (Sc.toks s) i e s.size) :
  t.place < e∧e≤s.size∧Sc.code (s.extract t.place e)=0∧Sc.at_ (s.extract t.place e)=0∧Sc.toks (s.extract t.place e)=[⟨t.kind,t.text,t.n,0⟩]:=by
 by_cases hb:8000 < s.size
 ·rw [(code_big hb).2.2] at hi;simp at hi
 ·have hcs:=code_small hb
  rw [hcs.1] at hc
  have ht:Sc.toks s=(Sc.from_ s.data.toList 0).1:=by rw [hcs.2.2,if_pos hc]
  rw [ht] at hi he
  have hlen:s.data.toList.length=s.size:=by simp
  unfold Sc.from_ at hi he hc
  rw [List.drop_zero] at hi he hc
  have h:=Sc.scan_pieces (s.data.toList.length+1) 0 s.data.toList (Nat.lt_succ_self _) hc i t hi e (by rw [Nat.zero_add,hlen];exact he)
  obtain ⟨_,h2,h3,h4⟩:=h
  rw [Nat.zero_add,hlen] at h3
  have hd:(s.extract t.place e).data.toList=(s.data.toList.drop t.place).take (e - t.place):=by
   simp [List.take_drop]
  have hsz:(s.extract t.place e).size=e - t.place:=by simp;omega
  have hb2:¬ 8000 < (s.extract t.place e).size:=by omega
  have hf:Sc.from_ (s.extract t.place e).data.toList 0=([⟨t.kind,t.text,t.n,0⟩],0,0):=by
   unfold Sc.from_
   rw [List.drop_zero,hd]
   have hl:((s.data.toList.drop t.place).take (e - t.place)).length=e - t.place:=by rw [List.length_take,List.length_drop,hlen];omega
   rw [hl]
   have:=h4 (e - t.place+1) (by omega)
   rw [Nat.sub_zero] at this
   exact this
  have hcs2:=code_small hb2
  exact ⟨h2,h3,by rw [hcs2.1,hf],by rw [hcs2.2.1,hf],by rw [hcs2.2.2,hf];rfl⟩
end Go.Proofs.YtbckhbeebngjfaaGreatDoor
namespace Go.Proofs.YtbckhbeebngjfaaGreatDoor
open Go.RowKit
structure Tr.Nd where
 kind:Int
 op:Int
 n:Int
 text:ByteArray
 kids:Int
def Tr.Nd.cells (x:Tr.Nd):List Value:=[.int .i64 x.kind,.int .i64 x.op,.int .i64 x.n,.string x.text,.int .i64 x.kids]
def Tr.cellsOf (l:List Tr.Nd):List Value:=l.flatMap Tr.Nd.cells
def NodesAt (w:World) (g:Nat) (l:List Tr.Nd):Prop:=g < w.heap.size∧∀ i (h:i < l.length),w.cell? ⟨g,i*5,none⟩=some (.int .i64 l[i].kind)∧w.cell? ⟨g,i*5+1,none⟩=some (.int .i64 l[i].op)∧w.cell? ⟨g,i*5+2,none⟩=some (.int .i64 l[i].n)∧w.cell? ⟨g,i*5+3,none⟩=some (.string l[i].text)∧w.cell? ⟨g,i*5+4,none⟩=some (.int .i64 l[i].kids)
theorem NodesAt.below {w w':World} {g:Nat} {l:List Tr.Nd} (h:NodesAt w g l) (hb:Below w.heap.size w w'):NodesAt w' g l:=by
 refine ⟨Nat.lt_of_lt_of_le h.1 hb.size,fun i hi=>?_⟩
 obtain ⟨a,b,c,d,e⟩:=h.2 i hi
 exact ⟨(hb.cell (p:=⟨g,i*5,none⟩) h.1).trans a,(hb.cell (p:=⟨g,i*5+1,none⟩) h.1).trans b,(hb.cell (p:=⟨g,i*5+2,none⟩) h.1).trans c,(hb.cell (p:=⟨g,i*5+3,none⟩) h.1).trans d,(hb.cell (p:=⟨g,i*5+4,none⟩) h.1).trans e⟩
def IntsAt (w:World) (g o:Nat) (l:List Nat):Prop:=g < w.heap.size∧∀ j (h:j < l.length),w.cell? ⟨g,o+j,none⟩=some (.int .i64 l[j])
theorem IntsAt.below {w w':World} {g o:Nat} {l:List Nat} (h:IntsAt w g o l) (hb:Below w.heap.size w w'):IntsAt w' g o l :=
 ⟨Nat.lt_of_lt_of_le h.1 hb.size,fun j hj=>(hb.cell (p:=⟨g,o+j,none⟩) h.1).trans (h.2 j hj)⟩
theorem IntsAt.drop {w:World} {g o:Nat} {l:List Nat} (h:IntsAt w g o l) (k:Nat):IntsAt w g (o+k) (l.drop k) :=
 ⟨h.1,fun j hj=>by have:=h.2 (k+j) (by simp at hj;omega);rw [List.getElem_drop,← this,Nat.add_assoc]⟩
def Tr.textK (k:Int):Bool:=k == 4 || k == 5 || k == 11 || k == 14 || Tr.inr k 16 21 || k == 23
def Tr.plain (x:Tr.Nd):Bool :=
 if (!Tr.textK x.kind && !(x.text.toList == []) || (x.kind != 2 && x.kind != 3 && x.n != 0) || (x.kind != 6 && x.kind != 7 && x.op != 0))=true then false
 else if x.kind=2 then x.n == 0 || x.n == 1
 else if x.kind=3 then decide (0≤x.n)
 else if x.kind=4∨x.kind=17 then decide ((x.text.size:Int)≤1000)
 else if x.kind=6 then Tr.inr x.op 1 2
 else if x.kind=7 then Tr.inr x.op 1 14
 else if x.kind=23 then Tr.pkgOk x.text
 else !Tr.textK x.kind || Tr.nameOk x.text
theorem Tr.kinds (k:Int):k=2∨k=3∨k=4∨k=5∨k=11∨k=14∨k=6∨k=7∨k=17∨k=23∨(Tr.inr k 16 21=true∧k≠17)∨(Tr.textK k=false∧Tr.inr k 16 21=false∧k≠2∧k≠3∧k≠4∧k≠5∧k≠11∧k≠14∧k≠6∧k≠7∧k≠17∧k≠23):=by
 by_cases h:Tr.inr k 16 21=true
 ·by_cases h17:k=17
  ·simp [h17]
  ·simp [h,h17]
 ·simp [Tr.textK]
  simp at h
  simp [h]
  omega
end Go.Proofs.YtbckhbeebngjfaaGreatDoor
