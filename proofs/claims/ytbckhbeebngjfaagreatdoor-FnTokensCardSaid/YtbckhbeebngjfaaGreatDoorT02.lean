/- Ib, Ic, Id. -/
import Derived.Test.YtbckhbeebngjfaaGreatDoorT01
import Derived.Deep.QuietTactic
import Derived.BigQuiet
import Derived.Laws.BytesArg
namespace Go.Proofs.YtbckhbeebngjfaaGreatDoor
open Go.RowKit
namespace Sc
theorem dig_nm {b:UInt8} (h:dig b=true):nm b=true:=by simp [nm,h]
theorem takeWhile_dig (d r:List UInt8) (hd:d.all dig=true):(d++r).takeWhile nm=d++r.takeWhile nm:=by
 induction d with
 | nil=>rfl
 | cons x d ih =>
  simp only [List.all_cons,Bool.and_eq_true] at hd
  simp [dig_nm hd.1,ih hd.2]
theorem oneNum_good (d r:List UInt8) (hd:d.all dig=true) (hr:r.takeWhile nm=[]) (hv:numVal d≤9223372036854775807) (hz:¬ ((d++r).head?=some 48∧1 < d.length)) :
  oneNum (d++r)=⟨0,3,[],numVal d,d.length⟩:=by
 unfold oneNum
 rw [takeWhile_dig d r hd,hr,List.append_nil,if_pos ⟨hd,hv,hz⟩]
theorem oneNum_long (d r:List UInt8) (hd:d.all dig=true) (hr:∃ b r',r=b :: r'∧nm b=true∧dig b=false):oneNum (d++r)=bad 3:=by
 obtain ⟨b,r',rfl,hb,hc⟩:=hr
 unfold oneNum
 rw [takeWhile_dig d _ hd,if_neg]
 simp [hb,hc]
theorem oneNum_bad (d r:List UInt8) (hd:d.all dig=true) (hr:r.takeWhile nm=[]) (h:9223372036854775807 < numVal d∨((d++r).head?=some 48∧1 < d.length)):oneNum (d++r)=bad 3:=by
 unfold oneNum
 rw [takeWhile_dig d r hd,hr,List.append_nil,if_neg]
 rintro ⟨_,h1,h2⟩
 rcases h with h | h
 ·omega
 ·exact h2 h
theorem split_at (s:ByteArray) (k j:Nat) (hkj:k≤j):s.data.toList.drop k=(s.data.toList.drop k).take (j - k)++s.data.toList.drop j:=by
 conv=>lhs;rw [← List.take_append_drop (j - k) (s.data.toList.drop k)]
 rw [List.drop_drop,show k+(j - k)=j from by omega]
theorem take_len (s:ByteArray) (k j:Nat) (hkj:k≤j) (hj:j≤s.size):((s.data.toList.drop k).take (j - k)).length=j - k:=by
 simp;omega
theorem head_at (s:ByteArray) (k:Nat) (hk:k < s.size):(s.data.toList.drop k).head?=some s[k]:=by rw [drop_cons s k hk];rfl
theorem num_end (s:ByteArray) (k j:Nat) (hk:k < s.size) (hkj:k≤j) (hj:j≤s.size) (ha:((s.data.toList.drop k).take (j - k)).all dig=true)
  (he:∀ h:j < s.size,dig s[j]=false) :
  ((9223372036854775807 < numVal ((s.data.toList.drop k).take (j - k))∨(s[k].toNat=48∧k+1 < j)∨(∃ h:j < s.size,nm s[j]=true))→oneNum (s.data.toList.drop k)=bad 3) ∧
  ((numVal ((s.data.toList.drop k).take (j - k))≤9223372036854775807∧¬ (s[k].toNat=48∧k+1 < j)∧(∀ h:j < s.size,nm s[j]=false))→oneNum (s.data.toList.drop k)=⟨0,3,[],numVal ((s.data.toList.drop k).take (j - k)),j - k⟩):=by
 have hh:=head_at s k hk
 have hl:=take_len s k j hkj hj
 have h48:(s.data.toList.drop k).head?=some 48↔s[k].toNat=48:=by
  rw [hh,Option.some.injEq,← UInt8.toNat_inj];rfl
 have hsp:=split_at s k j hkj
 generalize hd:(s.data.toList.drop k).take (j - k)=d at *
 rw [hsp] at h48 ⊢
 by_cases hlt:j < s.size
 ·have hdj:=drop_cons s j hlt
  cases hn:nm s[j]
  ·have hr:(s.data.toList.drop j).takeWhile nm=[]:=by rw [hdj];simp [hn]
   refine ⟨fun h=>oneNum_bad d _ ha hr ?_,fun h=>?_⟩
   ·rcases h with h | h | ⟨_,h⟩
    ·exact .inl h
    ·exact .inr ⟨h48.2 h.1,by omega⟩
    ·rw [hn] at h;cases h
   ·rw [oneNum_good d _ ha hr h.1 (fun q=>h.2.1 ⟨h48.1 q.1,by omega⟩),hl]
  ·refine ⟨fun _=>oneNum_long d _ ha ⟨_,_,hdj,hn,he hlt⟩,fun h=>?_⟩
   have:=h.2.2 hlt;rw [hn] at this;cases this
 ·have hr:(s.data.toList.drop j).takeWhile nm=[]:=by rw [List.drop_of_length_le (by simp;omega)];rfl
  refine ⟨fun h=>oneNum_bad d _ ha hr ?_,fun h=>?_⟩
  ·rcases h with h | h | ⟨h,_⟩
   ·exact .inl h
   ·exact .inr ⟨h48.2 h.1,by omega⟩
   ·exact absurd h hlt
  ·rw [oneNum_good d _ ha hr h.1 (fun q=>h.2.1 ⟨h48.1 q.1,by omega⟩),hl]
theorem num_le (l:List UInt8) (c:UInt8) (h:9223372036854775807 < numVal l):9223372036854775807 < numVal (l++[c]):=by rw [numVal_snoc];omega
theorem dig_bounds {b:UInt8} (h:dig b=true):48≤b.toNat∧b.toNat≤57:=by simpa [dig] using h
end Sc
def oneOut (k:Nat) (r:Sc.R):Value :=
 if r.code=0 then .tuple #[.agg #[.int .i64 r.kind,.string ⟨r.text.toArray⟩,.int .i64 r.n,.int .i64 k],.int .i64 ((k:Int)+r.size),.int .i64 0]
 else .tuple #[.agg #[.int .i64 0,.string ⟨#[]⟩,.int .i64 0,.int .i64 0],.int .i64 0,.int .i64 r.code]
theorem oneOut_bad {k:Nat} {r:Sc.R} {c:Nat} (h:r=Sc.bad c) (hc:c≠0):oneOut k r = .tuple #[.agg #[.int .i64 0,.string ⟨#[]⟩,.int .i64 0,.int .i64 0],.int .i64 0,.int .i64 c]:=by
 subst h;unfold oneOut Sc.bad;rw [if_neg hc]
theorem oneOut_good {k:Nat} {r:Sc.R} {kind n size:Nat} {text:List UInt8} (h:r=⟨0,kind,text,n,size⟩):oneOut k r = .tuple #[.agg #[.int .i64 kind,.string ⟨text.toArray⟩,.int .i64 n,.int .i64 k],.int .i64 ((k:Int)+size),.int .i64 0]:=by
 subst h;unfold oneOut;rw [if_pos rfl]
theorem good_eq {k j n:Nat} {x:Int} (hkj:k≤j) (hx:x=n) :
  Ending.returned (.tuple #[.agg #[.int .i64 3,.string ⟨#[]⟩,.int .i64 x,.int .i64 k],.int .i64 j,.int .i64 0]) = .returned (.tuple #[.agg #[.int .i64 (3:Nat),.string ⟨([]:List UInt8).toArray⟩,.int .i64 n,.int .i64 k],.int .i64 ((k:Int)+(j - k:Nat)),.int .i64 0]):=by
 rw [hx,show (k:Int)+(j - k:Nat)=j from by omega];rfl
theorem num_wrap {x:Int} {n:Nat} {c:UInt8} (hx:x=n) (h:x≤922337203685477580) (hc:48≤c.toNat∧c.toNat≤57) :
  IntKind.u64.wrap (IntKind.u64.wrap (x*10)+((c.toNat:Int) - 48) % 256)=x*10+(c.toNat - 48):=by
 rw [IntKind.wrap_u64,IntKind.wrap_u64];omega
set_option maxHeartbeats 1000000 in
theorem number_any (s:ByteArray) (k:Nat) (a:Int) (w:World) (hs:s.size≤1048576) (hk:k < s.size) (ha:a=(k:Int)) :
  Calls Tryz.prog 29 #[.string s,.int .i64 a] w fun e w'=>e = .returned (oneOut k (Sc.oneNum (s.data.toList.drop k)))∧Below w.heap.size w w':=by
 subst ha
 go_enter Tryz.func29,Tryz.ntmps29
 go_wp2
 go_loop [7,8,9] (fun en nv bg=>∃ (j:Nat) (x:Int) (b:Bool),k≤j∧j≤s.size∧en = .int .i64 j∧nv = .int .u64 x∧bg = .bool b ∧
   (((s.data.toList.drop k).take (j - k)).all Sc.dig=true)∧(b=false→x=Sc.numVal ((s.data.toList.drop k).take (j - k))∧x≤9223372036854775807)∧(b=true→9223372036854775807 < Sc.numVal ((s.data.toList.drop k).take (j - k))))
  (fun en _ _=>s.size - (intOf en).toNat)
 case atStart=>exact ⟨k,0,false,Nat.le_refl _,by omega,rfl,rfl,rfl,by simp,by simp [Sc.numVal],by simp⟩
 case round =>
  obtain ⟨j,x,b,hkj,hj,rfl,rfl,rfl,hall,hf,ht⟩:=hrel
  have HA:=hide hall
  have HF:=hide hf
  have HT:=hide ht
  clear hall hf ht
  by_cases hlt:j < s.size
  ·have hts:=hide (Sc.take_snoc s k j hkj hlt)
   cases hn:Sc.dig s[j]
   ·have HN:=hide (Sc.num_end s k j hk hkj hj HA.out (fun _=>hn))
    cases b
    ·have HX:=hide (HF.out rfl)
     clear HF HT
     have hx0:0≤x:=by have:=HX.out.1;omega
     have hx1:x≤9223372036854775807:=HX.out.2
     cases h48:((s[k].toNat:Int) == 48)
     ·cases hm:Sc.nm s[j]
      ·have HG:=hide (HN.out.2 ⟨by have:=HX.out.1;omega,fun q=>by simp at h48;omega,fun _=>hm⟩)
       go_wp2_with (first | (go_at_call 28;refine (digit_any _ _).mono ?_;rintro e w' ⟨rfl,rfl⟩) | (go_at_call 31;refine (letter_any _ _).mono ?_;rintro e w' ⟨rfl,rfl⟩))
       exact bodyPost_ret (v:= .tuple #[.agg #[.int .i64 3,.string ⟨#[]⟩,.int .i64 x,.int .i64 k],.int .i64 j,.int .i64 0]) (by simp [results,Tryz.results29,go_sem]) rfl ⟨by rw [oneOut_good HG.out];exact good_eq hkj HX.out.1,bA _⟩
      ·have HB:=hide (HN.out.1 (.inr (.inr ⟨hlt,hm⟩)))
       go_wp2_with (first | (go_at_call 28;refine (digit_any _ _).mono ?_;rintro e w' ⟨rfl,rfl⟩) | (go_at_call 31;refine (letter_any _ _).mono ?_;rintro e w' ⟨rfl,rfl⟩))
       exact bodyPost_ret (v:= .tuple #[.agg #[.int .i64 0,.string ⟨#[]⟩,.int .i64 0,.int .i64 0],.int .i64 0,.int .i64 3]) (by simp [results,Tryz.results29,go_sem]) rfl ⟨by rw [oneOut_bad HB.out (by decide)];rfl,bA _⟩
     ·by_cases hz:k+1 < j
      ·have HB:=hide (HN.out.1 (.inr (.inl ⟨by simp at h48;omega,hz⟩)))
       go_wp2_with (first | (go_at_call 28;refine (digit_any _ _).mono ?_;rintro e w' ⟨rfl,rfl⟩) | (go_at_call 31;refine (letter_any _ _).mono ?_;rintro e w' ⟨rfl,rfl⟩))
       exact bodyPost_ret (v:= .tuple #[.agg #[.int .i64 0,.string ⟨#[]⟩,.int .i64 0,.int .i64 0],.int .i64 0,.int .i64 3]) (by simp [results,Tryz.results29,go_sem]) rfl ⟨by rw [oneOut_bad HB.out (by decide)];rfl,bA _⟩
      ·cases hm:Sc.nm s[j]
       ·have HG:=hide (HN.out.2 ⟨by have:=HX.out.1;omega,fun q=>hz q.2,fun _=>hm⟩)
        go_wp2_with (first | (go_at_call 28;refine (digit_any _ _).mono ?_;rintro e w' ⟨rfl,rfl⟩) | (go_at_call 31;refine (letter_any _ _).mono ?_;rintro e w' ⟨rfl,rfl⟩))
        exact bodyPost_ret (v:= .tuple #[.agg #[.int .i64 3,.string ⟨#[]⟩,.int .i64 x,.int .i64 k],.int .i64 j,.int .i64 0]) (by simp [results,Tryz.results29,go_sem]) rfl ⟨by rw [oneOut_good HG.out];exact good_eq hkj HX.out.1,bA _⟩
       ·have HB:=hide (HN.out.1 (.inr (.inr ⟨hlt,hm⟩)))
        go_wp2_with (first | (go_at_call 28;refine (digit_any _ _).mono ?_;rintro e w' ⟨rfl,rfl⟩) | (go_at_call 31;refine (letter_any _ _).mono ?_;rintro e w' ⟨rfl,rfl⟩))
        exact bodyPost_ret (v:= .tuple #[.agg #[.int .i64 0,.string ⟨#[]⟩,.int .i64 0,.int .i64 0],.int .i64 0,.int .i64 3]) (by simp [results,Tryz.results29,go_sem]) rfl ⟨by rw [oneOut_bad HB.out (by decide)];rfl,bA _⟩
    ·have HTT:=hide (HT.out rfl)
     clear HF HT
     have HB:=hide (HN.out.1 (.inl HTT.out))
     go_wp2_with (first | (go_at_call 28;refine (digit_any _ _).mono ?_;rintro e w' ⟨rfl,rfl⟩) | (go_at_call 31;refine (letter_any _ _).mono ?_;rintro e w' ⟨rfl,rfl⟩))
     exact bodyPost_ret (v:= .tuple #[.agg #[.int .i64 0,.string ⟨#[]⟩,.int .i64 0,.int .i64 0],.int .i64 0,.int .i64 3]) (by simp [results,Tryz.results29,go_sem]) rfl ⟨by rw [oneOut_bad HB.out (by decide)];rfl,bA _⟩
   ·have HD:=hide (Sc.dig_bounds hn)
    cases b
    ·have HX:=hide (HF.out rfl)
     clear HF HT
     by_cases hx:x≤922337203685477580
     ·go_wp2_with (go_at_call 28;refine (digit_any _ _).mono ?_;rintro e w' ⟨rfl,rfl⟩)
      ·go_round
       case rel =>
        have hw:=num_wrap HX.out.1 hx HD.out
        refine ⟨j+1,_,_,by omega,by omega,by go_num,rfl,rfl,?_,?_,?_⟩
        ·rw [hts.out];simp [HA.out,hn]
        ·intro h;cases h
        ·intro _;rw [hts.out,Sc.numVal_snoc];have:=HX.out.1;have:=HD.out;omega
       case measure=>simp [intOf];omega
      ·go_round
       case rel =>
        have hw:=num_wrap HX.out.1 hx HD.out
        refine ⟨j+1,_,_,by omega,by omega,by go_num,rfl,rfl,?_,?_,?_⟩
        ·rw [hts.out];simp [HA.out,hn]
        ·intro _;rw [hts.out,Sc.numVal_snoc];have:=HX.out.1;have:=HD.out;omega
        ·intro h;cases h
       case measure=>simp [intOf];omega
     ·go_wp2_with (go_at_call 28;refine (digit_any _ _).mono ?_;rintro e w' ⟨rfl,rfl⟩)
      all_goals
       go_round
       case rel =>
        refine ⟨j+1,_,_,by omega,by omega,by go_num,rfl,rfl,?_,?_,?_⟩
        ·rw [hts.out];simp [HA.out,hn]
        ·intro h;cases h
        ·intro _;rw [hts.out,Sc.numVal_snoc];have:=HX.out.1;omega
       case measure=>simp [intOf];omega
    ·have HTT:=hide (HT.out rfl)
     clear HF HT
     go_wp2_with (go_at_call 28;refine (digit_any _ _).mono ?_;rintro e w' ⟨rfl,rfl⟩)
     all_goals
      go_round
      case rel =>
       refine ⟨j+1,_,_,by omega,by omega,by go_num,rfl,rfl,?_,?_,?_⟩
       ·rw [hts.out];simp [HA.out,hn]
       ·intro h;cases h
       ·intro _;rw [hts.out];exact Sc.num_le _ _ HTT.out
      case measure=>simp [intOf];omega
  ·have HN:=hide (Sc.num_end s k j hk hkj hj HA.out (fun h=>absurd h hlt))
   cases b
   ·have HX:=hide (HF.out rfl)
    clear HF HT
    have hx0:0≤x:=by have:=HX.out.1;omega
    have hx1:x≤9223372036854775807:=HX.out.2
    cases h48:((s[k].toNat:Int) == 48)
    ·have HG:=hide (HN.out.2 ⟨by have:=HX.out.1;omega,fun q=>by simp at h48;omega,fun h=>absurd h hlt⟩)
     go_wp2_with (first | (go_at_call 28;refine (digit_any _ _).mono ?_;rintro e w' ⟨rfl,rfl⟩) | (go_at_call 31;refine (letter_any _ _).mono ?_;rintro e w' ⟨rfl,rfl⟩))
     exact bodyPost_ret (v:= .tuple #[.agg #[.int .i64 3,.string ⟨#[]⟩,.int .i64 x,.int .i64 k],.int .i64 j,.int .i64 0]) (by simp [results,Tryz.results29,go_sem]) rfl ⟨by rw [oneOut_good HG.out];exact good_eq hkj HX.out.1,bA _⟩
    ·by_cases hz:k+1 < j
     ·have HB:=hide (HN.out.1 (.inr (.inl ⟨by simp at h48;omega,hz⟩)))
      go_wp2_with (first | (go_at_call 28;refine (digit_any _ _).mono ?_;rintro e w' ⟨rfl,rfl⟩) | (go_at_call 31;refine (letter_any _ _).mono ?_;rintro e w' ⟨rfl,rfl⟩))
      exact bodyPost_ret (v:= .tuple #[.agg #[.int .i64 0,.string ⟨#[]⟩,.int .i64 0,.int .i64 0],.int .i64 0,.int .i64 3]) (by simp [results,Tryz.results29,go_sem]) rfl ⟨by rw [oneOut_bad HB.out (by decide)];rfl,bA _⟩
     ·have HG:=hide (HN.out.2 ⟨by have:=HX.out.1;omega,fun q=>hz q.2,fun h=>absurd h hlt⟩)
      go_wp2_with (first | (go_at_call 28;refine (digit_any _ _).mono ?_;rintro e w' ⟨rfl,rfl⟩) | (go_at_call 31;refine (letter_any _ _).mono ?_;rintro e w' ⟨rfl,rfl⟩))
      exact bodyPost_ret (v:= .tuple #[.agg #[.int .i64 3,.string ⟨#[]⟩,.int .i64 x,.int .i64 k],.int .i64 j,.int .i64 0]) (by simp [results,Tryz.results29,go_sem]) rfl ⟨by rw [oneOut_good HG.out];exact good_eq hkj HX.out.1,bA _⟩
   ·have HTT:=hide (HT.out rfl)
    clear HF HT
    have HB:=hide (HN.out.1 (.inl HTT.out))
    go_wp2_with (first | (go_at_call 28;refine (digit_any _ _).mono ?_;rintro e w' ⟨rfl,rfl⟩) | (go_at_call 31;refine (letter_any _ _).mono ?_;rintro e w' ⟨rfl,rfl⟩))
    exact bodyPost_ret (v:= .tuple #[.agg #[.int .i64 0,.string ⟨#[]⟩,.int .i64 0,.int .i64 0],.int .i64 0,.int .i64 3]) (by simp [results,Tryz.results29,go_sem]) rfl ⟨by rw [oneOut_bad HB.out (by decide)];rfl,bA _⟩
namespace Sc
theorem unq_nil:unq []=none:=rfl
theorem unq_34 {b:UInt8} (r:List UInt8) (h:b.toNat=34):unq (b :: r)=some ([],1):=by unfold unq;rw [if_pos h]
theorem unq_92s {b:UInt8} (r:List UInt8) (h:b.toNat=92) (hr:r.length < 2):unq (b :: r)=none:=by
 unfold unq;rw [if_neg (by omega),if_pos h]
 match r,hr with
 | [],_=>rfl
 | [_],_=>rfl
theorem unq_92n {b x y:UInt8} (r:List UInt8) (h:b.toNat=92) (hx:hexv x < 0∨hexv y < 0):unq (b :: x :: y :: r)=none:=by
 unfold unq;rw [if_neg (by omega),if_pos h]
 simp only;rw [if_pos hx]
theorem unq_92 {b x y:UInt8} (r:List UInt8) (h:b.toNat=92) (hx:¬ hexv x < 0) (hy:¬ hexv y < 0) :
  unq (b :: x :: y :: r)=(unq r).map fun p=>(UInt8.ofNat (16 * hexv x+hexv y).toNat :: p.1,p.2+3):=by
 conv=>lhs;unfold unq
 rw [if_neg (by omega),if_pos h]
 simp only;rw [if_neg (by omega)]
theorem unq_out {b:UInt8} (r:List UInt8) (h1:b.toNat≠34) (h2:b.toNat≠92) (h:b.toNat < 32∨126 < b.toNat):unq (b :: r)=none:=by
 unfold unq;rw [if_neg h1,if_neg h2,if_pos h]
theorem unq_in {b:UInt8} (r:List UInt8) (h1:b.toNat≠34) (h2:b.toNat≠92) (h:¬ (b.toNat < 32∨126 < b.toNat)):unq (b :: r)=(unq r).map fun p=>(b :: p.1,p.2+1):=by
 conv=>lhs;unfold unq
 rw [if_neg h1,if_neg h2,if_neg h]
theorem hexv_le (b:UInt8):-1≤hexv b∧hexv b≤15:=by unfold hexv;split <;> (try split) <;> omega
def bytesOf (t:List UInt8):List Value:=t.map fun c=>Value.int .u8 c.toNat
theorem bytesOf_snoc (t:List UInt8) (c:UInt8):bytesOf (t++[c])=bytesOf t++[.int .u8 c.toNat]:=by simp [bytesOf]
theorem strOf (t:List UInt8):strOfNums (t.map fun c=>(c.toNat:Int))=⟨t.toArray⟩:=by
 unfold strOfNums;simp [List.map_map,Function.comp_def]
end Sc
theorem Tryz.infoS5:(Tryz.prog.info? 5).map (fun i=>(i.zero,i.size,i.bytes))=some (some (.int .u8 0),1,1):=by kernel_rfl
theorem conv_own {w:World} {base g cap:Nat} {t:List UInt8} (h:w.ownsRow base 5 1 (.slice (some ⟨g,0,none⟩) t.length cap) t.length (Sc.bytesOf t)) :
  (convert 22 9 (.slice (some ⟨g,0,none⟩) t.length cap)).run Tryz.prog w = .ok (.string ⟨t.toArray⟩) w:=by
 have:=run_convert_bytes_arg (P:=Tryz.prog) w 22 5 Tryz.underlying22 Tryz.underlying5 g 0 t.length cap (t.map fun c=>(c.toNat:Int)) (by simp) (fun i hi=>by
  rw [Nat.zero_add,h.cellAt i (by omega)];simp [Sc.bytesOf,hi]) 9 Tryz.underlying9
 rw [this,Sc.strOf]
theorem below_drewN {B:Nat} {a w:World} (h:Below B a w) (n:Nat):Below B a (w.drewN n):=⟨h.os,h.tape,h.output,h.size,h.block⟩
theorem row_succ {W:World} {base:Nat} {e:TypeId} {size:Nat} {v:Value} {k:Nat} {xs:List Value} (h:W.ownsRow base e size v (k+1) xs):∃ g cap,v = .slice (some ⟨g,0,none⟩) (k+1) cap:=by
 rcases h.2 with ⟨_,h0⟩ | ⟨g,cap,_,hv,_⟩
 ·omega
 ·exact ⟨g,cap,hv⟩
theorem app_step {w wr w1:World} {g cap:Nat} {t:List UInt8} {c:UInt8} {v':Value} {o:Obj} (hown:wr.ownsRow w.heap.size 5 1 (.slice (some ⟨g,0,none⟩) t.length cap) t.length (Sc.bytesOf t)) (hB:Below w.heap.size w wr)
  (hown':w1.ownsRow w.heap.size 5 1 v' (t.length+1) (Sc.bytesOf t++[.int .u8 c.toNat])) (hg:(wr.alloc o).grownBy w1 (Value.slice (some ⟨g,0,none⟩) t.length cap).ownBlock) :
  ∃ g' cap',v' = .slice (some ⟨g',0,none⟩) (t.length+1) cap'∧w1.ownsRow w.heap.size 5 1 (.slice (some ⟨g',0,none⟩) (t++[c]).length cap') (t++[c]).length (Sc.bytesOf (t++[c]))∧Below w.heap.size w w1:=by
 obtain ⟨g',cap',rfl⟩:=row_succ hown'
 refine ⟨g',cap',rfl,by rw [Sc.bytesOf_snoc,List.length_append];exact hown',(hB.alloc hB.size _).grown hg (by have:=hB.size;simp;omega) (fun k e=>?_)⟩
 exact (hown.lt k e).1
def unqOut (k:Nat) (r:Option (List UInt8 × Nat)):Value :=
 match r with
 | none => .tuple #[.string ⟨#[]⟩,.int .i64 0,.bool false]
 | some p => .tuple #[.string ⟨p.1.toArray⟩,.int .i64 ((k:Int)+1+p.2),.bool true]
theorem hexb {x y:Int} (hx0:0≤x) (hx:x≤15) (hy0:0≤y) (hy:y≤15):((UInt8.ofNat (16 * x+y).toNat).toNat:Int)=16 * x+y:=by
 rw [UInt8.toNat_ofNat'];omega
theorem unq_ret {k j:Nat} {t:List UInt8} (h:k+1≤j):Ending.returned (.tuple #[.string ⟨t.toArray⟩,.int .i64 ((j:Int)+1),.bool true]) = .returned (unqOut k (some (t,j - k))):=by
 unfold unqOut;simp;omega
set_option maxRecDepth 100000 in
set_option maxHeartbeats 1000000 in
theorem unquote_any (s:ByteArray) (k:Nat) (a:Int) (w:World) (hs:s.size≤1048576) (hk:k < s.size) (ha:a=(k:Int)) :
  Calls Tryz.prog 33 #[.string s,.int .i64 a] w fun e w'=>e = .returned (unqOut k (Sc.unq (s.data.toList.drop (k+1))))∧Below w.heap.size w w':=by
 subst ha
 obtain ⟨i0,hi,hz0,hz1,hz2⟩:=info_parts Tryz.infoS5
 go_enter Tryz.func33,Tryz.ntmps33
 go_wp2
 go_loopw [7,8] (fun v i wr=>∃ (j:Nat) (t:List UInt8) (g cap:Nat),k+1≤j∧j≤s.size∧i = .int .i64 j∧v = .slice (some ⟨g,0,none⟩) t.length cap∧wr.ownsRow w.heap.size 5 1 (.slice (some ⟨g,0,none⟩) t.length cap) t.length (Sc.bytesOf t)∧Below w.heap.size w wr∧t.length≤j ∧
   Sc.unq (s.data.toList.drop (k+1))=(Sc.unq (s.data.toList.drop j)).map fun p=>(t++p.1,p.2+(j - (k+1)))) (fun _ i _=>s.size - (intOf i).toNat)
 case atStart =>
  exact ⟨k+1,[],w.heap.size,0,Nat.le_refl _,hk,by go_num,rfl,World.ownsRow_lit w #[] 0 (Nat.le_refl _) (Nat.zero_le _) rfl,bA _,Nat.zero_le _,by simp⟩
 case round =>
  obtain ⟨j,t,g,cap,hkj,hj,rfl,rfl,hown,hB,htl,he⟩:=hrel
  have HE:=hide he
  clear he
  have hsz:=hB.size
  by_cases hlt:j < s.size
  ·have hd:=hide (Sc.drop_cons s j hlt)
   cases h34:((s[j].toNat:Int) == 34)
   ·have H34:Hid (s[j].toNat≠34):=by simp at h34;exact hide (by omega)
    cases h92:((s[j].toNat:Int) == 92)
    ·have H92:Hid (s[j].toNat≠92):=by simp at h92;exact hide (by omega)
     by_cases hlo:(s[j].toNat:Int) < 32
     ·have HF:Hid (Sc.unq (s.data.toList.drop (k+1))=none):=hide (by rw [HE.out,hd.out,Sc.unq_out _ H34.out H92.out (.inl (by omega))];rfl)
      go_wp2
      go_ret3
      exact ⟨by rw [HF.out];rfl,hB⟩
     ·by_cases hhi:126 < (s[j].toNat:Int)
      ·have HF:Hid (Sc.unq (s.data.toList.drop (k+1))=none):=hide (by rw [HE.out,hd.out,Sc.unq_out _ H34.out H92.out (.inr (by omega))];rfl)
       go_wp2
       go_ret3
       exact ⟨by rw [HF.out];rfl,hB⟩
      ·go_wp2_with (at_builtin;refine wpList_append_own _ rfl _ _ 22 rfl w.heap.size 5 i0 (.int .u8 0) 1 1 Tryz.underlying22 hi hz0 hz1 hz2 rfl (by decide) _ _ _ rfl (hown.alloc _) ⟨wr.heap.size,0,none⟩ 1 1 [.int .u8 s[j].toNat] rfl rfl (cell_one_new _ _ _) (by simp [Value.oneCell']) ?_ ?_ ?_ ?_)
       ·unfold maxLen;omega
       ·omega
       ·first | omega | (simp;omega)
       ·intro v' w1 hown' hgrow _
        obtain ⟨g',cap',rfl,ho2,hb2⟩:=app_step hown hB hown' hgrow
        clear hown' hgrow hown
        go_wp2
        go_roundw
        case rel =>
         refine ⟨j+1,t++[s[j]],g',cap',by omega,by omega,by go_num,by simp,ho2,hb2,by simp;omega,?_⟩
         rw [HE.out,hd.out,Sc.unq_in _ H34.out H92.out (by omega),Option.map_map]
         congr 1;funext p;simp;omega
        case measure=>simp [intOf];omega
    ·have H92:Hid (s[j].toNat=92):=by simp at h92;exact hide (by omega)
     by_cases h2:s.size≤j+2
     ·have HF:Hid (Sc.unq (s.data.toList.drop (k+1))=none):=hide (by rw [HE.out,hd.out,Sc.unq_92s _ H92.out (by simp;omega)];rfl)
      go_wp2
      go_ret3
      exact ⟨by rw [HF.out];rfl,hB⟩
     ·have hd2:=hide (show s.data.toList.drop j=s[j] :: s[j+1] :: s[j+2] :: s.data.toList.drop (j+3) by rw [Sc.drop_cons s j hlt,Sc.drop_cons s (j+1) (by omega),Sc.drop_cons s (j+2) (by omega)])
      have hx1:=Sc.hexv_le s[j+1]
      have hx2:=Sc.hexv_le s[j+2]
      obtain ⟨hx1a,hx1b⟩:=hx1
      obtain ⟨hx2a,hx2b⟩:=hx2
      by_cases hn1:Sc.hexv s[j+1] < 0
      ·have HF:Hid (Sc.unq (s.data.toList.drop (k+1))=none):=hide (by rw [HE.out,hd2.out,Sc.unq_92n _ H92.out (.inl hn1)];rfl)
       go_wp2_with (go_at_call 49;refine (hex_any _ _).mono ?_;rintro e w' ⟨rfl,rfl⟩)
       go_ret3
       exact ⟨by rw [HF.out];rfl,hB⟩
      ·by_cases hn2:Sc.hexv s[j+2] < 0
       ·have HF:Hid (Sc.unq (s.data.toList.drop (k+1))=none):=hide (by rw [HE.out,hd2.out,Sc.unq_92n _ H92.out (.inr hn2)];rfl)
        go_wp2_with (go_at_call 49;refine (hex_any _ _).mono ?_;rintro e w' ⟨rfl,rfl⟩)
        go_ret3
        exact ⟨by rw [HF.out];rfl,hB⟩
       ·go_wp2_with (go_at_call 49;refine (hex_any _ _).mono ?_;rintro e w' ⟨rfl,rfl⟩)
        go_quiet ((go_at_call 49;exact Calls.quiet_of_same (hex_any _ _)))
        have hown2:(w'.drewN nq).ownsRow w.heap.size 5 1 (.slice (some ⟨g,0,none⟩) t.length cap) t.length (Sc.bytesOf t):=hown
        have hB2:Below w.heap.size w (w'.drewN nq):=below_drewN hB nq
        go_wp2_with (at_builtin;refine wpList_append_own _ rfl _ _ 22 rfl w.heap.size 5 i0 (.int .u8 0) 1 1 Tryz.underlying22 hi hz0 hz1 hz2 rfl (by decide) _ _ _ rfl (hown2.alloc _) ⟨w'.heap.size,0,none⟩ 1 1 [.int .u8 (16 * Sc.hexv s[j+1]+Sc.hexv s[j+2])] rfl rfl (cell_one_new _ _ _) (by simp [Value.oneCell']) ?_ ?_ ?_ ?_)
        ·unfold maxLen;omega
        ·omega
        ·first | omega | (simp;omega)
        ·intro v' w1 hown' hgrow _
         rw [← hexb (by omega) hx1b (by omega) hx2b] at hown'
         obtain ⟨g',cap',rfl,ho2,hb2⟩:=app_step hown2 hB2 hown' hgrow
         clear hown' hgrow hown hown2 hB2
         go_wp2
         go_roundw
         case rel =>
          refine ⟨j+3,_,g',cap',by omega,by omega,by go_num,by simp,ho2,hb2,by simp;omega,?_⟩
          rw [HE.out,hd2.out,Sc.unq_92 _ H92.out (by omega) (by omega),Option.map_map]
          congr 1;funext p;simp;omega
         case measure=>simp [intOf];omega
   ·have hcv:=conv_own hown
    have HF:Hid (Sc.unq (s.data.toList.drop (k+1))=some (t,j - k)):=hide (by rw [HE.out,hd.out,Sc.unq_34 _ (by simp at h34;omega)];simp;omega)
    go_wp2
    go_ret3
    exact ⟨by rw [HF.out];exact unq_ret hkj,hB⟩
  ·have HF:Hid (Sc.unq (s.data.toList.drop (k+1))=none):=hide (by rw [HE.out,List.drop_of_length_le (i:=j) (by simp;omega)];rfl)
   go_wp2
   go_ret3
   exact ⟨by rw [HF.out];rfl,hB⟩
theorem oneOut_shape (k:Nat) (r:Sc.R):∃ (kd:Int) (tx:ByteArray) (n a en cd:Int),oneOut k r = .tuple #[.agg #[.int .i64 kd,.string tx,.int .i64 n,.int .i64 a],.int .i64 en,.int .i64 cd]:=by
 unfold oneOut;split <;> exact ⟨_,_,_,_,_,_,rfl⟩
theorem below4 {B b:Nat} {w w1:World} {v0 v1 v2 v3:Value} (h:Below B w w1) (hb:B≤b):Below B w ((((w1.setCell ⟨b,0,none⟩ v0).setCell ⟨b,1,none⟩ v1).setCell ⟨b,2,none⟩ v2).setCell ⟨b,3,none⟩ v3) :=
 (((h.setCell (p:=⟨b,0,none⟩) hb _).setCell (p:=⟨b,1,none⟩) hb _).setCell (p:=⟨b,2,none⟩) hb _).setCell (p:=⟨b,3,none⟩) hb _
def Sc.isWord (l:List UInt8):Bool:=decide (l∈Sc.words)
theorem has_wordsS (b:Nat) (s:ByteArray) (w:World) (t:List UInt8) (ht:s.data.toList=t) (hc:Lies w b Sc.words) :
  Calls Tryz.prog 32 #[.slice (some ⟨b,0,none⟩) 17 17,.string s] w fun e w'=>e = .returned (.bool (Sc.isWord t))∧w'=w:=by
 subst ht;exact has_any Sc.words b s w (by decide) hc
theorem ext_mk {x:ByteArray} {t:List UInt8} (h:x.data.toList=t):x=⟨t.toArray⟩:=by subst h;exact (Lib.mk_data x).symm
theorem bcell {W w1:World} (hb:Below W.heap.size W w1):(∀ b o,b < W.heap.size→w1.cell? ⟨b,o,none⟩=W.cell? ⟨b,o,none⟩)∧(∀ b o,b < W.heap.size→w1.frozen? ⟨b,o,none⟩=W.frozen? ⟨b,o,none⟩) :=
 ⟨fun b o h=>hb.cell (p:=⟨b,o,none⟩) h,fun b o h=>hb.frozen (p:=⟨b,o,none⟩) h⟩
theorem Sc.one_num (s:ByteArray) (k:Nat) (hk:k < s.size) (hd:Sc.dig s[k]=true):Sc.one (s.data.toList.drop k)=Sc.oneNum (s.data.toList.drop k):=by
 rw [Sc.drop_cons s k hk];simp only [Sc.one];rw [if_pos hd]
theorem Sc.one_name (s:ByteArray) (k:Nat) (hk:k < s.size) (hd:Sc.dig s[k]=false) (hb:Sc.beg s[k]=true):Sc.one (s.data.toList.drop k)=Sc.oneName (s.data.toList.drop k):=by
 rw [Sc.drop_cons s k hk];simp only [Sc.one];rw [if_neg (by simp [hd]),if_pos hb]
theorem Sc.one_text (s:ByteArray) (k:Nat) (hk:k < s.size) (hd:Sc.dig s[k]=false) (hb:Sc.beg s[k]=false) (hq:s[k].toNat=34):Sc.one (s.data.toList.drop k)=Sc.oneText (s.data.toList.drop k):=by
 rw [Sc.drop_cons s k hk];simp only [Sc.one];rw [if_neg (by simp [hd]),if_neg (by simp [hb]),if_pos hq]
theorem Sc.one_mark (s:ByteArray) (k:Nat) (hk:k < s.size) (hd:Sc.dig s[k]=false) (hb:Sc.beg s[k]=false) (hq:s[k].toNat≠34):Sc.one (s.data.toList.drop k)=Sc.oneMark (s.data.toList.drop k):=by
 rw [Sc.drop_cons s k hk];simp only [Sc.one];rw [if_neg (by simp [hd]),if_neg (by simp [hb]),if_neg hq]
set_option maxHeartbeats 1000000 in
theorem one_num (s:ByteArray) (k:Nat) (w:World) (hs:s.size≤1048576) (hk:k < s.size) (hd:Sc.dig s[k]=true) :
  Calls Tryz.prog 15 #[.string s,.int .i64 k] w fun e w'=>e = .returned (oneOut k (Sc.one (s.data.toList.drop k)))∧Below w.heap.size w w':=by
 rw [Sc.one_num s k hk hd]
 obtain ⟨kd,tx,n,a,en,cd,heq⟩:=oneOut_shape k (Sc.oneNum (s.data.toList.drop k))
 have hN:=fun w=>number_any s k k w hs hk rfl
 rw [heq] at hN ⊢
 clear heq
 have HN:=hide hN
 clear hN
 go_enter Tryz.func15,Tryz.ntmps15
 go_wp2_with (first | (go_at_call 28;refine (digit_any _ _).mono ?_;rintro e w' ⟨rfl,rfl⟩) | (go_at_call 29;refine (HN.out _).mono ?_;rintro e w1 ⟨rfl,hb⟩;obtain ⟨hc,hf⟩:=bcell hb))
 have hb0:Below w.heap.size w w1:=(bA _).trans (hb.mono (by simp))
 refine bodyPost_ret (v:= .tuple #[.agg #[.int .i64 kd,.string tx,.int .i64 n,.int .i64 a],.int .i64 en,.int .i64 cd]) (by simp [results,Tryz.results15,go_sem,hc]) rfl ⟨rfl,?_⟩
 exact below4 hb0 (Nat.le_refl _)
set_option maxHeartbeats 1000000 in
theorem one_text (s:ByteArray) (k:Nat) (w:World) (hs:s.size≤1048576) (hk:k < s.size) (hd:Sc.dig s[k]=false) (hbg:Sc.beg s[k]=false) (hq:((s[k].toNat:Int) == 34)=true) :
  Calls Tryz.prog 15 #[.string s,.int .i64 k] w fun e w'=>e = .returned (oneOut k (Sc.one (s.data.toList.drop k)))∧Below w.heap.size w w':=by
 rw [Sc.one_text s k hk hd hbg (by simp at hq;omega)]
 have htl:(s.data.toList.drop k).tail=s.data.toList.drop (k+1):=by simp
 have ho:Sc.oneText (s.data.toList.drop k)=match Sc.unq (s.data.toList.drop (k+1)) with
  | none=>Sc.bad 4
  | some p=>if 1000 < p.1.length then Sc.bad 5 else ⟨0,4,p.1,0,p.2+1⟩:=by unfold Sc.oneText;rw [htl];rfl
 have hU:=fun w=>unquote_any s k k w hs hk rfl
 cases hu:Sc.unq (s.data.toList.drop (k+1)) with
 | none =>
  rw [hu] at ho hU
  rw [ho]
  simp only [unqOut] at hU
  have HU:=hide hU
  clear hU ho htl hu
  go_enter Tryz.func15,Tryz.ntmps15
  go_wp2_with (first | (go_at_call 28;refine (digit_any _ _).mono ?_;rintro e w' ⟨rfl,rfl⟩) | (go_at_call 30;refine (begins_any _ _).mono ?_;rintro e w' ⟨rfl,rfl⟩) | (go_at_call 33;refine (HU.out _).mono ?_;rintro e w1 ⟨rfl,hb⟩;obtain ⟨hc,hf⟩:=bcell hb))
  have hb0:Below w.heap.size w w1:=(bA _).trans (hb.mono (by simp))
  refine bodyPost_ret (v:= .tuple #[.agg #[.int .i64 0,.string ⟨#[]⟩,.int .i64 0,.int .i64 0],.int .i64 0,.int .i64 4]) (by simp [results,Tryz.results15,go_sem,hc]) rfl ⟨by rw [oneOut_bad rfl (by decide)];rfl,?_⟩
  exact below4 hb0 (Nat.le_refl _)
 | some p =>
  rw [hu] at ho hU
  simp only at ho
  simp only [unqOut] at hU
  have HU:=hide hU
  have hus:=hide (Sc.unq_size _ p.1 p.2 hu)
  clear hU htl hu
  by_cases hlong:1000 < p.1.length
  ·rw [if_pos hlong] at ho
   rw [ho]
   clear ho
   go_enter Tryz.func15,Tryz.ntmps15
   go_wp2_with (first | (go_at_call 28;refine (digit_any _ _).mono ?_;rintro e w' ⟨rfl,rfl⟩) | (go_at_call 30;refine (begins_any _ _).mono ?_;rintro e w' ⟨rfl,rfl⟩) | (go_at_call 33;refine (HU.out _).mono ?_;rintro e w1 ⟨rfl,hb⟩;obtain ⟨hc,hf⟩:=bcell hb))
   have hb0:Below w.heap.size w w1:=(bA _).trans (hb.mono (by simp))
   refine bodyPost_ret (v:= .tuple #[.agg #[.int .i64 0,.string ⟨#[]⟩,.int .i64 0,.int .i64 0],.int .i64 0,.int .i64 5]) (by simp [results,Tryz.results15,go_sem,hc]) rfl ⟨by rw [oneOut_bad rfl (by decide)];rfl,?_⟩
   exact below4 hb0 (Nat.le_refl _)
  ·rw [if_neg hlong] at ho
   rw [ho]
   clear ho
   go_enter Tryz.func15,Tryz.ntmps15
   go_wp2_with (first | (go_at_call 28;refine (digit_any _ _).mono ?_;rintro e w' ⟨rfl,rfl⟩) | (go_at_call 30;refine (begins_any _ _).mono ?_;rintro e w' ⟨rfl,rfl⟩) | (go_at_call 33;refine (HU.out _).mono ?_;rintro e w1 ⟨rfl,hb⟩;obtain ⟨hc,hf⟩:=bcell hb))
   have hb0:Below w.heap.size w w1:=(bA _).trans (hb.mono (by simp))
   refine bodyPost_ret (v:= .tuple #[.agg #[.int .i64 4,.string ⟨p.1.toArray⟩,.int .i64 0,.int .i64 k],.int .i64 ((k:Int)+1+p.2),.int .i64 0]) (by simp [results,Tryz.results15,go_sem,hc]) rfl ⟨by rw [oneOut_good rfl];simp;omega,?_⟩
   exact below4 hb0 (Nat.le_refl _)
theorem Sc.takeWhile_take (p:UInt8→Bool) (l:List UInt8):l.take (l.takeWhile p).length=l.takeWhile p:=by
 induction l with
 | nil=>rfl
 | cons x r ih=>simp only [List.takeWhile_cons];split <;> simp [ih]
set_option maxRecDepth 100000 in
set_option maxHeartbeats 1000000 in
theorem one_name (s:ByteArray) (k:Nat) (w:World) (hs:s.size≤1048576) (hk:k < s.size) (hd:Sc.dig s[k]=false) (hbg:Sc.beg s[k]=true) :
  Calls Tryz.prog 15 #[.string s,.int .i64 k] w fun e w'=>e = .returned (oneOut k (Sc.one (s.data.toList.drop k)))∧Below w.heap.size w w':=by
 rw [Sc.one_name s k hk hd hbg]
 go_enter Tryz.func15,Tryz.ntmps15
 go_wp2_with (first | (go_at_call 28;refine (digit_any _ _).mono ?_;rintro e w' ⟨rfl,rfl⟩) | (go_at_call 30;refine (begins_any _ _).mono ?_;rintro e w' ⟨rfl,rfl⟩))
 go_loop [7] (fun t=>∃ j:Nat,k≤j∧j≤s.size∧t = .int .i64 j∧j+((s.data.toList.drop j).takeWhile Sc.nm).length=k+((s.data.toList.drop k).takeWhile Sc.nm).length) (fun t=>s.size - (intOf t).toNat)
 case atStart=>exact ⟨k,Nat.le_refl _,by omega,rfl,rfl⟩
 case round =>
  obtain ⟨j,hkj,hj,rfl,he⟩:=hrel
  have HE:=hide he
  clear he
  by_cases hgo:∃ h:j < s.size,Sc.nm s[j]=true
  ·obtain ⟨hlt,hn⟩:=hgo
   have hdj:=hide (Sc.drop_cons s j hlt)
   go_wp2_with (go_at_call 31;refine (letter_any _ _).mono ?_;rintro e w' ⟨rfl,rfl⟩)
   go_round
   case rel =>
    refine ⟨j+1,by omega,by omega,by go_num,?_⟩
    have e:=HE.out
    rw [hdj.out,Sc.takeWhile_cons_pos hn] at e
    omega
   case measure=>simp [intOf];omega
  ·have he:((s.data.toList.drop j).takeWhile Sc.nm).length=0:=by
    by_cases hlt:j < s.size
    ·have hn:Sc.nm s[j]=false:=by cases h:Sc.nm s[j] <;> simp_all
     rw [Sc.drop_cons s j hlt,Sc.takeWhile_cons_neg hn]
    ·rw [List.drop_of_length_le (i:=j) (by simp;omega)];rfl
   have hx:(s.extract k j).data.toList=(s.data.toList.drop k).takeWhile Sc.nm:=by
    have e:=HE.out
    rw [Lib.extract_data,show j - k=((s.data.toList.drop k).takeWhile Sc.nm).length from by omega,Sc.takeWhile_take]
   have hjk:j=k+((s.data.toList.drop k).takeWhile Sc.nm).length:=by have e:=HE.out;omega
   have HX:=hide hx
   have HJ:=hide hjk
   clear he hx hjk
   have hend:(∃ h:j < s.size,Sc.nm s[j]=false)∨¬ j < s.size:=by
    by_cases hlt:j < s.size
    ·left;refine ⟨hlt,?_⟩;cases h:Sc.nm s[j] <;> simp_all
    ·exact .inr hlt
   clear hgo
   have hlen:(s.extract k j).size=j - k:=by simp;omega
   have HL:=hide hlen
   clear hlen
   cases hw:Sc.isWord ((s.data.toList.drop k).takeWhile Sc.nm)
   ·have hnw:¬ (s.data.toList.drop k).takeWhile Sc.nm∈Sc.words:=by simpa [Sc.isWord] using hw
    by_cases hl:30 < j - k
    ·have HO:Hid (Sc.oneName (s.data.toList.drop k)=Sc.bad 5):=hide (by have e:=HJ.out;unfold Sc.oneName;rw [if_neg hnw,if_pos (by omega)])
     clear hnw
     rcases hend with ⟨hlt,hn⟩ | hlt
     all_goals
      go_wp2_with (first | (go_at_call 31;refine (letter_any _ _).mono ?_;rintro e w' ⟨rfl,rfl⟩) | (go_at_call 21;refine (words_any _).mono ?_;rintro e w1 ⟨rfl,hb,hz,hli⟩;obtain ⟨hc,hf⟩:=bcell hb;rw [World.size_alloc] at hli) | (go_at_call 32;refine (has_wordsS (w.heap.size+1) _ _ _ HX.out hli).mono ?_;rintro e w1 ⟨rfl,rfl⟩))
      have hb0:Below w.heap.size w w1:=(bA _).trans (hb.mono (by simp))
      refine bodyPost_ret (v:= .tuple #[.agg #[.int .i64 0,.string ⟨#[]⟩,.int .i64 0,.int .i64 0],.int .i64 0,.int .i64 5]) (by simp [results,Tryz.results15,go_sem,hc]) rfl ⟨by rw [oneOut_bad HO.out (by decide)];rfl,?_⟩
      exact below4 hb0 (Nat.le_refl _)
    ·have HO:Hid (Sc.oneName (s.data.toList.drop k)=⟨0,1,(s.data.toList.drop k).takeWhile Sc.nm,0,j - k⟩):=hide (by have e:=HJ.out;unfold Sc.oneName;rw [if_neg hnw,if_neg (by omega),show ((s.data.toList.drop k).takeWhile Sc.nm).length=j - k from by omega])
     clear hnw
     rcases hend with ⟨hlt,hn⟩ | hlt
     all_goals
      go_wp2_with (first | (go_at_call 31;refine (letter_any _ _).mono ?_;rintro e w' ⟨rfl,rfl⟩) | (go_at_call 21;refine (words_any _).mono ?_;rintro e w1 ⟨rfl,hb,hz,hli⟩;obtain ⟨hc,hf⟩:=bcell hb;rw [World.size_alloc] at hli) | (go_at_call 32;refine (has_wordsS (w.heap.size+1) _ _ _ HX.out hli).mono ?_;rintro e w1 ⟨rfl,rfl⟩))
      have hb0:Below w.heap.size w w1:=(bA _).trans (hb.mono (by simp))
      refine bodyPost_ret (v:= .tuple #[.agg #[.int .i64 1,.string (s.extract k j),.int .i64 0,.int .i64 k],.int .i64 j,.int .i64 0]) (by simp [results,Tryz.results15,go_sem,hc]) rfl ⟨by rw [oneOut_good HO.out,ext_mk HX.out,show (k:Int)+(j - k:Nat)=j from by omega];rfl,?_⟩
      exact below4 hb0 (Nat.le_refl _)
   ·have hnw:(s.data.toList.drop k).takeWhile Sc.nm∈Sc.words:=by simpa [Sc.isWord] using hw
    have HO:Hid (Sc.oneName (s.data.toList.drop k)=⟨0,2,(s.data.toList.drop k).takeWhile Sc.nm,0,j - k⟩):=hide (by have e:=HJ.out;unfold Sc.oneName;rw [if_pos hnw,show ((s.data.toList.drop k).takeWhile Sc.nm).length=j - k from by omega])
    clear hnw
    rcases hend with ⟨hlt,hn⟩ | hlt
    all_goals
      go_wp2_with (first | (go_at_call 31;refine (letter_any _ _).mono ?_;rintro e w' ⟨rfl,rfl⟩) | (go_at_call 21;refine (words_any _).mono ?_;rintro e w1 ⟨rfl,hb,hz,hli⟩;obtain ⟨hc,hf⟩:=bcell hb;rw [World.size_alloc] at hli) | (go_at_call 32;refine (has_wordsS (w.heap.size+1) _ _ _ HX.out hli).mono ?_;rintro e w1 ⟨rfl,rfl⟩))
      have hb0:Below w.heap.size w w1:=(bA _).trans (hb.mono (by simp))
      refine bodyPost_ret (v:= .tuple #[.agg #[.int .i64 2,.string (s.extract k j),.int .i64 0,.int .i64 k],.int .i64 j,.int .i64 0]) (by simp [results,Tryz.results15,go_sem,hc]) rfl ⟨by rw [oneOut_good HO.out,ext_mk HX.out,show (k:Int)+(j - k:Nat)=j from by omega];rfl,?_⟩
      exact below4 hb0 (Nat.le_refl _)
end Go.Proofs.YtbckhbeebngjfaaGreatDoor
