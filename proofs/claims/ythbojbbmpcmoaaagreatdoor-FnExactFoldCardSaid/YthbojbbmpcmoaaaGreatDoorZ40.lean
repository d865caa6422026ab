/- Fwn. -/
import Derived.Test.YthbojbbmpcmoaaaGreatDoorZ26
import Derived.Test.YthbojbbmpcmoaaaGreatDoorZ23
namespace Go.Proofs.YthbojbbmpcmoaaaGreatDoor.Vl
open Go.RowKit
abbrev in64D (p:Int):Decidable (in64 p):=by unfold in64;exact inferInstance
theorem fits_bool (x y:Int) (hx:in64 x) (hy:in64 y) (hy0:y≠0):@decide (in64 (x * y)) (in64D (x * y))=((wrap64 ((wrap64 (x * y)).tdiv y) == x) && !((x == -1) && (y == -9223372036854775808)) && !((y == -1) && (x == -9223372036854775808))):=by
 have hm:=mul_fits x y hx hy hy0
 by_cases hf:in64 (x * y)
 ·obtain ⟨h1,h2⟩:=hm.2 hf
  have h3:¬ (x = -1∧y = -9223372036854775808):=by
   rintro ⟨rfl,rfl⟩
   unfold in64 at hf
   omega
  rw [@decide_eq_true _ (in64D _) hf,h1]
  symm
  simp only [Bool.and_eq_true,Bool.not_eq_true',beq_self_eq_true,true_and]
  constructor
  ·cases h:(x == -1 && y == -9223372036854775808) with
   | false=>rfl
   | true=>simp at h;exact (h3 h).elim
  ·cases h:(y == -1 && x == -9223372036854775808) with
   | false=>rfl
   | true=>simp at h;exact (h2 h).elim
 ·rw [@decide_eq_false _ (in64D _) hf]
  symm
  cases h:((wrap64 ((wrap64 (x * y)).tdiv y) == x) && !((x == -1) && (y == -9223372036854775808)) && !((y == -1) && (x == -9223372036854775808))) with
  | false=>rfl
  | true =>
   exfalso
   simp at h
   exact hf (hm.1 ⟨h.1.1,fun q=>h.2.elim (fun a=>a q.1) (fun a=>a q.2)⟩)
set_option maxHeartbeats 1000000 in
theorem times6_any (x y:Int) (w:World) (hx:in64 x) (hy:in64 y):Calls Tryz.prog 140 #[.int .i64 x,.int .i64 y] w fun e w'=>(∃ z ok,e = .returned (.tuple #[.int .i64 z,.bool ok])∧ok=(fit64 (x * y)).isSome∧(ok=true→z=x * y))∧w'=w:=by
 by_cases h0:x=0
 ·subst h0
  go_enter Tryz.func140,Tryz.ntmps140
  go_wp2
  go_ret2
  exact ⟨⟨0,true,rfl,by simp [fit64],by simp⟩,rfl⟩
 ·by_cases h1:y=0
  ·subst h1
   have h0b:(x == 0)=false:=by simpa using h0
   go_enter Tryz.func140,Tryz.ntmps140
   go_wp2
   go_ret2
   exact ⟨⟨0,true,rfl,by simp [fit64],by simp⟩,rfl⟩
  ·have h0b:(x == 0)=false:=by simpa using h0
   have h1b:(y == 0)=false:=by simpa using h1
   have hfb:=fits_bool x y hx hy h1
   have hzz:in64 (x * y)→wrap64 (x * y)=x * y:=fun h=>wrap_id h
   obtain ⟨z,hz⟩:∃ z,wrap64 (x * y)=z:=⟨_,rfl⟩
   rw [hz] at hfb hzz
   obtain ⟨u,hu⟩:∃ u,wrap64 (z.tdiv y)=u:=⟨_,rfl⟩
   rw [hu] at hfb
   have HFB:Hid (@decide (in64 (x * y)) (in64D (x * y))=((u == x) && !((x == -1) && (y == -9223372036854775808)) && !((y == -1) && (x == -9223372036854775808)))):=hfb
   have HZZ:Hid (in64 (x * y)→z=x * y):=hzz
   have hfs:@decide (in64 (x * y)) (in64D (x * y))=(fit64 (x * y)).isSome:=by
    by_cases h:in64 (x * y)
    ·rw [@decide_eq_true _ (in64D _) h,show fit64 (x * y)=some (x * y) from if_pos h];rfl
    ·rw [@decide_eq_false _ (in64D _) h,show fit64 (x * y)=none from if_neg h];rfl
   have HFS:Hid (@decide (in64 (x * y)) (in64D (x * y))=(fit64 (x * y)).isSome):=hfs
   clear hfs
   clear hfb hzz
   generalize (fit64 (x * y)).isSome=fs at *
   have fin:∀ ok:Bool,((u == x) && !((x == -1) && (y == -9223372036854775808)) && !((y == -1) && (x == -9223372036854775808)))=ok→ok=fs∧(ok=true→z=x * y):=fun ok h=>by
    rw [← HFB.out] at h
    exact ⟨h.symm.trans HFS.out,fun ht=>HZZ.out (by rw [ht] at h;exact @of_decide_eq_true _ (in64D _) h)⟩
   have FIN:Hid (∀ ok:Bool,((u == x) && !((x == -1) && (y == -9223372036854775808)) && !((y == -1) && (x == -9223372036854775808)))=ok→ok=fs∧(ok=true→z=x * y)):=fin
   clear fin HFB HZZ HFS
   cases b1:(u == x)
   all_goals cases b2:(x == -1)
   all_goals cases b3:(y == -9223372036854775808)
   all_goals cases b4:(y == -1)
   all_goals cases b5:(x == -9223372036854775808)
   all_goals
    have FI:=FIN.out _ rfl
    rw [b1,b2,b3,b4,b5] at FI
    have HFI:Hid (_∧_):=FI
    clear FI FIN
    go_enter Tryz.func140,Tryz.ntmps140
    go_wp2
    go_ret2
    first
     | exact ⟨⟨z,_,rfl,HFI.out.1,HFI.out.2⟩,rfl⟩
     | exact ⟨⟨wrap64 (x * y),_,rfl,HFI.out.1,fun h=>hz.trans (HFI.out.2 h)⟩,rfl⟩
def wDiv:List UInt8:=[100,105,118,105,100,101]
def wRng:List UInt8:=[114,97,110,103,101]
def numOp (op x y:Int):Option Int × List UInt8 :=
 if op=11 then (fit64 (x - y),if (fit64 (x - y)).isSome then [] else wRng)
 else if op=12 then (fit64 (x * y),if (fit64 (x * y)).isSome then [] else wRng)
 else if y=0 then (none,wDiv)
 else if op=13 then (if x = -9223372036854775808∧y = -1 then (none,wRng) else (some (quoV x y),[]))
 else (some (remV x y),[])
def NumPost (w:World) (r:Option Int × List UInt8) (e:Ending) (w':World):Prop:=Below w.heap.size w w'∧match r with
 | (some n,_)=>∃ g,w.heap.size≤g∧e = .returned (.tuple #[.agg #[.slice (some ⟨g,0,none⟩) 1 1],.string ⟨#[]⟩])∧AtomsO w' g 0 [⟨3,n,⟨#[]⟩,0⟩]
 | (none,s)=>e = .returned (.tuple #[.agg #[.slice none 0 0],.string ⟨s.toArray⟩])
set_option maxHeartbeats 400000 in
theorem no6_any (s:ByteArray) (w:World):Calls Tryz.prog 84 #[.string s] w fun e w'=>e = .returned (.tuple #[.agg #[.slice none 0 0],.string s])∧Below w.heap.size w w':=by
 go_enter Tryz.func84,Tryz.ntmps84
 go_wp2
 refine bodyPost_ret (v:= .tuple #[.agg #[.slice none 0 0],.string s]) (by simp [results,Tryz.results84,go_sem]) rfl ⟨rfl,?_⟩
 exact bA _
set_option maxHeartbeats 1000000 in
theorem number6_sub (x y:Int) (w:World) (hx:in64 x) (hy:in64 y):Calls Tryz.prog 89 #[.int .i64 11,.int .i64 x,.int .i64 y] w (NumPost w (numOp 11 x y)):=by
 unfold in64 at hx hy
 have HN:=hide (no6_any ⟨#[114,97,110,103,101]⟩)
 by_cases hf:-9223372036854775808≤x - y∧x - y≤9223372036854775807
 ·have HR:Hid (numOp 11 x y=(some (x - y),[])):=(by unfold numOp;rw [if_pos rfl,show fit64 (x - y)=some (x - y) from if_pos hf];rfl)
  have HI:=hide (fun w'=>int5_any (x - y) w')
  have hw:wrap64 (x - y)=x - y:=by unfold wrap64;omega
  by_cases h0:y < 0
  ·have h1:wrap64 (9223372036854775807+y)=9223372036854775807+y:=by unfold wrap64;omega
   have h2:¬ 9223372036854775807+y < x:=by omega
   have h3:¬ 0 < y:=by omega
   go_enter Tryz.func89,Tryz.ntmps89
   go_wp2_with fail
   refine (HI.out _).mono ?_
   rintro e w1 ⟨g,hg,rfl,ha,hb1⟩
   simp only [World.size_alloc] at hg
   have hn:=cell_new w (.slice none 0 0) 71
   have hq:Below w.heap.size w (w.alloc (.cells #[.slice none 0 0] 71)):=bA _
   have hx1:w1.cell? ⟨w.heap.size,0,none⟩=some (.slice none 0 0):=(hb1.cell (p:=⟨w.heap.size,0,none⟩) (by simp)).trans hn.1
   have fx:w1.frozen? ⟨w.heap.size,0,none⟩=false:=(hb1.frozen (p:=⟨w.heap.size,0,none⟩) (by simp)).trans hn.2
   have hB:=hq.trans (hb1.mono hq.size)
   clear hb1 hq hn
   go_wp2
   refine bodyPost_ret (v:= .tuple #[.agg #[.slice (some ⟨g,0,none⟩) 1 1],.string ⟨#[]⟩]) (by simp [results,Tryz.results89,go_sem,hx1]) rfl ?_
   rw [HR.out]
   exact ⟨hB.setCell (p:=⟨w.heap.size,0,none⟩) (Nat.le_refl _) _,g,by omega,rfl,atomsO_set ha _ (by simp;omega) _⟩
  ·by_cases h3:0 < y
   ·have h1:wrap64 (-9223372036854775808+y) = -9223372036854775808+y:=by unfold wrap64;omega
    have h2:¬ x < -9223372036854775808+y:=by omega
    go_enter Tryz.func89,Tryz.ntmps89
    go_wp2_with fail
    refine (HI.out _).mono ?_
    rintro e w1 ⟨g,hg,rfl,ha,hb1⟩
    simp only [World.size_alloc] at hg
    have hn:=cell_new w (.slice none 0 0) 71
    have hq:Below w.heap.size w (w.alloc (.cells #[.slice none 0 0] 71)):=bA _
    have hx1:w1.cell? ⟨w.heap.size,0,none⟩=some (.slice none 0 0):=(hb1.cell (p:=⟨w.heap.size,0,none⟩) (by simp)).trans hn.1
    have fx:w1.frozen? ⟨w.heap.size,0,none⟩=false:=(hb1.frozen (p:=⟨w.heap.size,0,none⟩) (by simp)).trans hn.2
    have hB:=hq.trans (hb1.mono hq.size)
    clear hb1 hq hn
    go_wp2
    refine bodyPost_ret (v:= .tuple #[.agg #[.slice (some ⟨g,0,none⟩) 1 1],.string ⟨#[]⟩]) (by simp [results,Tryz.results89,go_sem,hx1]) rfl ?_
    rw [HR.out]
    exact ⟨hB.setCell (p:=⟨w.heap.size,0,none⟩) (Nat.le_refl _) _,g,by omega,rfl,atomsO_set ha _ (by simp;omega) _⟩
   ·skip
    go_enter Tryz.func89,Tryz.ntmps89
    go_wp2_with fail
    refine (HI.out _).mono ?_
    rintro e w1 ⟨g,hg,rfl,ha,hb1⟩
    simp only [World.size_alloc] at hg
    have hn:=cell_new w (.slice none 0 0) 71
    have hq:Below w.heap.size w (w.alloc (.cells #[.slice none 0 0] 71)):=bA _
    have hx1:w1.cell? ⟨w.heap.size,0,none⟩=some (.slice none 0 0):=(hb1.cell (p:=⟨w.heap.size,0,none⟩) (by simp)).trans hn.1
    have fx:w1.frozen? ⟨w.heap.size,0,none⟩=false:=(hb1.frozen (p:=⟨w.heap.size,0,none⟩) (by simp)).trans hn.2
    have hB:=hq.trans (hb1.mono hq.size)
    clear hb1 hq hn
    go_wp2
    refine bodyPost_ret (v:= .tuple #[.agg #[.slice (some ⟨g,0,none⟩) 1 1],.string ⟨#[]⟩]) (by simp [results,Tryz.results89,go_sem,hx1]) rfl ?_
    rw [HR.out]
    exact ⟨hB.setCell (p:=⟨w.heap.size,0,none⟩) (Nat.le_refl _) _,g,by omega,rfl,atomsO_set ha _ (by simp;omega) _⟩
 ·have HR:Hid (numOp 11 x y=(none,wRng)):=(by unfold numOp;rw [if_pos rfl,show fit64 (x - y)=none from if_neg hf];rfl)
  by_cases h0:y < 0
  ·have h1:wrap64 (9223372036854775807+y)=9223372036854775807+y:=by unfold wrap64;omega
   have h2:9223372036854775807+y < x:=by omega
   go_enter Tryz.func89,Tryz.ntmps89
   go_wp2_with fail
   refine (HN.out _).mono ?_
   rintro e w1 ⟨rfl,hb1⟩
   have hn:=cell_new w (.slice none 0 0) 71
   have hq:Below w.heap.size w (w.alloc (.cells #[.slice none 0 0] 71)):=bA _
   have hx1:w1.cell? ⟨w.heap.size,0,none⟩=some (.slice none 0 0):=(hb1.cell (p:=⟨w.heap.size,0,none⟩) (by simp)).trans hn.1
   have fx:w1.frozen? ⟨w.heap.size,0,none⟩=false:=(hb1.frozen (p:=⟨w.heap.size,0,none⟩) (by simp)).trans hn.2
   have hB:=hq.trans (hb1.mono hq.size)
   clear hb1 hq hn
   go_wp2
   refine bodyPost_ret (v:= .tuple #[.agg #[.slice none 0 0],.string ⟨#[114,97,110,103,101]⟩]) (by simp [results,Tryz.results89,go_sem,hx1]) rfl ?_
   rw [HR.out]
   exact ⟨hB.setCell (p:=⟨w.heap.size,0,none⟩) (Nat.le_refl _) _,rfl⟩
  ·have h3:0 < y:=by omega
   have h1:wrap64 (-9223372036854775808+y) = -9223372036854775808+y:=by unfold wrap64;omega
   have h2:x < -9223372036854775808+y:=by omega
   go_enter Tryz.func89,Tryz.ntmps89
   go_wp2_with fail
   refine (HN.out _).mono ?_
   rintro e w1 ⟨rfl,hb1⟩
   have hn:=cell_new w (.slice none 0 0) 71
   have hq:Below w.heap.size w (w.alloc (.cells #[.slice none 0 0] 71)):=bA _
   have hx1:w1.cell? ⟨w.heap.size,0,none⟩=some (.slice none 0 0):=(hb1.cell (p:=⟨w.heap.size,0,none⟩) (by simp)).trans hn.1
   have fx:w1.frozen? ⟨w.heap.size,0,none⟩=false:=(hb1.frozen (p:=⟨w.heap.size,0,none⟩) (by simp)).trans hn.2
   have hB:=hq.trans (hb1.mono hq.size)
   clear hb1 hq hn
   go_wp2
   refine bodyPost_ret (v:= .tuple #[.agg #[.slice none 0 0],.string ⟨#[114,97,110,103,101]⟩]) (by simp [results,Tryz.results89,go_sem,hx1]) rfl ?_
   rw [HR.out]
   exact ⟨hB.setCell (p:=⟨w.heap.size,0,none⟩) (Nat.le_refl _) _,rfl⟩
set_option maxHeartbeats 1000000 in
theorem number6_mul (x y:Int) (w:World) (hx:in64 x) (hy:in64 y):Calls Tryz.prog 89 #[.int .i64 12,.int .i64 x,.int .i64 y] w (NumPost w (numOp 12 x y)):=by
 have HN:=hide (no6_any ⟨#[114,97,110,103,101]⟩)
 have HT:=hide (fun w'=>times6_any x y w' hx hy)
 have HI:=hide (fun w'=>int5_any (x * y) w')
 have HB:Hid (numOp 12 x y=(fit64 (x * y),if (fit64 (x * y)).isSome then [] else wRng)):=(by unfold numOp;rw [if_neg (by decide),if_pos rfl];rfl)
 cases hf:fit64 (x * y) with
 | some p =>
  obtain rfl:p=x * y:=by unfold fit64 at hf;split at hf <;> cases hf;rfl
  have HR:Hid (numOp 12 x y=(some (x * y),[])):=(by rw [HB.out,hf];rfl)
  rw [hf] at HT
  ·go_enter Tryz.func89,Tryz.ntmps89
   go_wp2_with fail
   refine (HT.out _).mono ?_
   rintro e w0 ⟨⟨z,ok,rfl,hok,hz⟩,rfl⟩
   obtain rfl:ok=true:=hok
   obtain rfl:=hz rfl
   go_wp2_with fail
   refine (HI.out _).mono ?_
   rintro e w1 ⟨g,hg,rfl,ha,hb1⟩
   simp only [World.size_alloc] at hg
   have hn:=cell_new w (.slice none 0 0) 71
   have hq:Below w.heap.size w (w.alloc (.cells #[.slice none 0 0] 71)):=bA _
   have hx1:w1.cell? ⟨w.heap.size,0,none⟩=some (.slice none 0 0):=(hb1.cell (p:=⟨w.heap.size,0,none⟩) (by simp)).trans hn.1
   have fx:w1.frozen? ⟨w.heap.size,0,none⟩=false:=(hb1.frozen (p:=⟨w.heap.size,0,none⟩) (by simp)).trans hn.2
   have hB:=hq.trans (hb1.mono hq.size)
   clear hb1 hq hn
   go_wp2
   refine bodyPost_ret (v:= .tuple #[.agg #[.slice (some ⟨g,0,none⟩) 1 1],.string ⟨#[]⟩]) (by simp [results,Tryz.results89,go_sem,hx1]) rfl ?_
   rw [HR.out]
   exact ⟨hB.setCell (p:=⟨w.heap.size,0,none⟩) (Nat.le_refl _) _,g,by omega,rfl,atomsO_set ha _ (by simp;omega) _⟩
 | none =>
  have HR:Hid (numOp 12 x y=(none,wRng)):=(by rw [HB.out,hf];rfl)
  rw [hf] at HT
  ·go_enter Tryz.func89,Tryz.ntmps89
   go_wp2_with fail
   refine (HT.out _).mono ?_
   rintro e w0 ⟨⟨z,ok,rfl,hok,hz⟩,rfl⟩
   obtain rfl:ok=false:=hok
   go_wp2_with fail
   refine (HN.out _).mono ?_
   rintro e w1 ⟨rfl,hb1⟩
   have hn:=cell_new w (.slice none 0 0) 71
   have hq:Below w.heap.size w (w.alloc (.cells #[.slice none 0 0] 71)):=bA _
   have hx1:w1.cell? ⟨w.heap.size,0,none⟩=some (.slice none 0 0):=(hb1.cell (p:=⟨w.heap.size,0,none⟩) (by simp)).trans hn.1
   have fx:w1.frozen? ⟨w.heap.size,0,none⟩=false:=(hb1.frozen (p:=⟨w.heap.size,0,none⟩) (by simp)).trans hn.2
   have hB:=hq.trans (hb1.mono hq.size)
   clear hb1 hq hn
   go_wp2
   refine bodyPost_ret (v:= .tuple #[.agg #[.slice none 0 0],.string ⟨#[114,97,110,103,101]⟩]) (by simp [results,Tryz.results89,go_sem,hx1]) rfl ?_
   rw [HR.out]
   exact ⟨hB.setCell (p:=⟨w.heap.size,0,none⟩) (Nat.le_refl _) _,rfl⟩
set_option maxHeartbeats 2000000 in
theorem number6_div (x y:Int) (w:World) (hx:in64 x) (hy:in64 y):Calls Tryz.prog 89 #[.int .i64 13,.int .i64 x,.int .i64 y] w (NumPost w (numOp 13 x y)):=by
 by_cases hy0:y=0
 ·subst hy0
  have HN:=hide (no6_any ⟨#[100,105,118,105,100,101]⟩)
  have HR:Hid (numOp 13 x 0=(none,wDiv)):=(by unfold numOp;rw [if_neg (by decide),if_neg (by decide),if_pos rfl];rfl)
  ·skip
   go_enter Tryz.func89,Tryz.ntmps89
   go_wp2_with fail
   refine (HN.out _).mono ?_
   rintro e w1 ⟨rfl,hb1⟩
   have hn:=cell_new w (.slice none 0 0) 71
   have hq:Below w.heap.size w (w.alloc (.cells #[.slice none 0 0] 71)):=bA _
   have hx1:w1.cell? ⟨w.heap.size,0,none⟩=some (.slice none 0 0):=(hb1.cell (p:=⟨w.heap.size,0,none⟩) (by simp)).trans hn.1
   have fx:w1.frozen? ⟨w.heap.size,0,none⟩=false:=(hb1.frozen (p:=⟨w.heap.size,0,none⟩) (by simp)).trans hn.2
   have hB:=hq.trans (hb1.mono hq.size)
   clear hb1 hq hn
   go_wp2
   refine bodyPost_ret (v:= .tuple #[.agg #[.slice none 0 0],.string ⟨#[100,105,118,105,100,101]⟩]) (by simp [results,Tryz.results89,go_sem,hx1]) rfl ?_
   rw [HR.out]
   exact ⟨hB.setCell (p:=⟨w.heap.size,0,none⟩) (Nat.le_refl _) _,rfl⟩
 ·have hyb:(y == 0)=false:=by simpa using hy0
  by_cases hy1:y = -1
  ·subst hy1
   by_cases hxm:x = -9223372036854775808
   ·subst hxm
    have HN:=hide (no6_any ⟨#[114,97,110,103,101]⟩)
    have HR:Hid (numOp 13 (-9223372036854775808) (-1)=(none,wRng)):=(show numOp 13 (-9223372036854775808) (-1)=(none,wRng) from by decide)
    go_enter Tryz.func89,Tryz.ntmps89
    go_wp2_with fail
    refine (HN.out _).mono ?_
    rintro e w1 ⟨rfl,hb1⟩
    have hn:=cell_new w (.slice none 0 0) 71
    have hq:Below w.heap.size w (w.alloc (.cells #[.slice none 0 0] 71)):=bA _
    have hx1:w1.cell? ⟨w.heap.size,0,none⟩=some (.slice none 0 0):=(hb1.cell (p:=⟨w.heap.size,0,none⟩) (by simp)).trans hn.1
    have fx:w1.frozen? ⟨w.heap.size,0,none⟩=false:=(hb1.frozen (p:=⟨w.heap.size,0,none⟩) (by simp)).trans hn.2
    have hB:=hq.trans (hb1.mono hq.size)
    clear hb1 hq hn
    go_wp2
    refine bodyPost_ret (v:= .tuple #[.agg #[.slice none 0 0],.string ⟨#[114,97,110,103,101]⟩]) (by simp [results,Tryz.results89,go_sem,hx1]) rfl ?_
    rw [HR.out]
    exact ⟨hB.setCell (p:=⟨w.heap.size,0,none⟩) (Nat.le_refl _) _,rfl⟩
   ·have hxb:(x == -9223372036854775808)=false:=by simpa using hxm
    have HR:Hid (numOp 13 x (-1)=(some (-x),[])):=(by unfold numOp;rw [if_neg (by decide),if_neg (by decide),if_neg (by decide),if_pos rfl,if_neg (fun h=>hxm h.1)];unfold quoV mends;rw [show x.tmod (-1)=0 from by simp,Int.tdiv_neg,Int.tdiv_one];rfl)
    have HI:=hide (fun w'=>int5_any (-x) w')
    have hw:wrap64 (-x) = -x:=by unfold in64 at hx;unfold wrap64;omega
    go_enter Tryz.func89,Tryz.ntmps89
    go_wp2_with fail
    refine (HI.out _).mono ?_
    rintro e w1 ⟨g,hg,rfl,ha,hb1⟩
    simp only [World.size_alloc] at hg
    have hn:=cell_new w (.slice none 0 0) 71
    have hq:Below w.heap.size w (w.alloc (.cells #[.slice none 0 0] 71)):=bA _
    have hx1:w1.cell? ⟨w.heap.size,0,none⟩=some (.slice none 0 0):=(hb1.cell (p:=⟨w.heap.size,0,none⟩) (by simp)).trans hn.1
    have fx:w1.frozen? ⟨w.heap.size,0,none⟩=false:=(hb1.frozen (p:=⟨w.heap.size,0,none⟩) (by simp)).trans hn.2
    have hB:=hq.trans (hb1.mono hq.size)
    clear hb1 hq hn
    go_wp2
    refine bodyPost_ret (v:= .tuple #[.agg #[.slice (some ⟨g,0,none⟩) 1 1],.string ⟨#[]⟩]) (by simp [results,Tryz.results89,go_sem,hx1]) rfl ?_
    rw [HR.out]
    exact ⟨hB.setCell (p:=⟨w.heap.size,0,none⟩) (Nat.le_refl _) _,g,by omega,rfl,atomsO_set ha _ (by simp;omega) _⟩
  ·have hyb1:(y == -1)=false:=by simpa using hy1
   have hb:=tdiv_bound x y hx hy0 hy1
   have hw1:wrap64 (x.tdiv y)=x.tdiv y:=wrap_id hb
   have hmb:=tmod_bound x y hy0
   have hsg:=tmod_sign x y
   have hdm:=Int.mul_tdiv_add_tmod x y
   have hsm:x.tmod y≠0→wrap64 (x.tdiv y - 1)=x.tdiv y - 1:=fun hr=>by
    refine wrap_id ?_
    have hne:y.natAbs≠1:=fun h1=>by omega
    have h2:=Int.natAbs_tdiv x y
    have h3:x.natAbs.div y.natAbs≤x.natAbs / 2:=Nat.div_le_div_left (by omega) (by omega)
    unfold in64 at *;omega
   have HV:Hid (numOp 13 x y=(some (quoV x y),[])):=(by unfold numOp;rw [if_neg (by decide),if_neg (by decide),if_neg hy0,if_pos rfl,if_neg (fun h=>hy1 h.2)];rfl)
   have hval:quoV x y=if mends x y then x.tdiv y - 1 else x.tdiv y:=rfl
   have hmd:mends x y=((x.tmod y != 0) && (decide (x.tmod y < 0) != decide (y < 0))):=by
    unfold mends
    by_cases hr:x.tmod y=0
    ·rw [hr];rfl
    ·have:decide (x < 0)=decide (x.tmod y < 0):=by
      rw [decide_eq_decide]
      constructor
      ·intro h;have:=hsg.1 h;omega
      ·intro h;exact Classical.byContradiction fun h'=>by have:=hsg.2 h';omega
     rw [this]
   rw [hmd] at hval
   obtain ⟨q,hq⟩:∃ q,x.tdiv y=q:=⟨_,rfl⟩
   obtain ⟨r,hrr⟩:∃ r,x.tmod y=r:=⟨_,rfl⟩
   rw [hq] at hw1 hsm
   rw [hrr] at hsm hmb
   rw [hrr] at hval
   rw [hq] at hval
   have hrw:in64 r:=by unfold in64 at *;omega
   clear hdm hsg hmd hb
   have HBW:Hid (quoV x y=_):=hval
   clear hval
   by_cases hr:r=0
   ·subst hr
    have HR:Hid (numOp 13 x y=(some q,[])):=(by rw [HV.out,HBW.out];rfl)
    have HI:=hide (fun w'=>int5_any q w')
    clear hsm hmb
    go_enter Tryz.func89,Tryz.ntmps89
    go_wp2_with fail
    refine (HI.out _).mono ?_
    rintro e w1 ⟨g,hg,rfl,ha,hb1⟩
    simp only [World.size_alloc] at hg
    have hn:=cell_new w (.slice none 0 0) 71
    have hq:Below w.heap.size w (w.alloc (.cells #[.slice none 0 0] 71)):=bA _
    have hx1:w1.cell? ⟨w.heap.size,0,none⟩=some (.slice none 0 0):=(hb1.cell (p:=⟨w.heap.size,0,none⟩) (by simp)).trans hn.1
    have fx:w1.frozen? ⟨w.heap.size,0,none⟩=false:=(hb1.frozen (p:=⟨w.heap.size,0,none⟩) (by simp)).trans hn.2
    have hB:=hq.trans (hb1.mono hq.size)
    clear hb1 hq hn
    go_wp2
    refine bodyPost_ret (v:= .tuple #[.agg #[.slice (some ⟨g,0,none⟩) 1 1],.string ⟨#[]⟩]) (by simp [results,Tryz.results89,go_sem,hx1]) rfl ?_
    rw [HR.out]
    exact ⟨hB.setCell (p:=⟨w.heap.size,0,none⟩) (Nat.le_refl _) _,g,by omega,rfl,atomsO_set ha _ (by simp;omega) _⟩
   ·have hrb:(r != 0)=true:=by simpa using hr
    have hw3:=hsm hr
    clear hsm
    by_cases hr0:r < 0
    ·by_cases hyn:y < 0
     ·skip
      have HR:Hid (numOp 13 x y=(some (q),[])):=(by rw [HV.out,HBW.out,hrb,decide_eq_true hr0,decide_eq_true hyn];rfl)
      have HI:=hide (fun w'=>int5_any (q) w')
      go_enter Tryz.func89,Tryz.ntmps89
      go_wp2_with fail
      refine (HI.out _).mono ?_
      rintro e w1 ⟨g,hg,rfl,ha,hb1⟩
      simp only [World.size_alloc] at hg
      have hn:=cell_new w (.slice none 0 0) 71
      have hq:Below w.heap.size w (w.alloc (.cells #[.slice none 0 0] 71)):=bA _
      have hx1:w1.cell? ⟨w.heap.size,0,none⟩=some (.slice none 0 0):=(hb1.cell (p:=⟨w.heap.size,0,none⟩) (by simp)).trans hn.1
      have fx:w1.frozen? ⟨w.heap.size,0,none⟩=false:=(hb1.frozen (p:=⟨w.heap.size,0,none⟩) (by simp)).trans hn.2
      have hB:=hq.trans (hb1.mono hq.size)
      clear hb1 hq hn
      go_wp2
      refine bodyPost_ret (v:= .tuple #[.agg #[.slice (some ⟨g,0,none⟩) 1 1],.string ⟨#[]⟩]) (by simp [results,Tryz.results89,go_sem,hx1]) rfl ?_
      rw [HR.out]
      exact ⟨hB.setCell (p:=⟨w.heap.size,0,none⟩) (Nat.le_refl _) _,g,by omega,rfl,atomsO_set ha _ (by simp;omega) _⟩
     ·skip
      have HR:Hid (numOp 13 x y=(some (q - 1),[])):=(by rw [HV.out,HBW.out,hrb,decide_eq_true hr0,decide_eq_false hyn];rfl)
      have HI:=hide (fun w'=>int5_any (q - 1) w')
      have hw4:wrap64 (r+y)=r+y:=wrap_id (by unfold in64 at *;omega)
      go_enter Tryz.func89,Tryz.ntmps89
      go_wp2_with fail
      refine (HI.out _).mono ?_
      rintro e w1 ⟨g,hg,rfl,ha,hb1⟩
      simp only [World.size_alloc] at hg
      have hn:=cell_new w (.slice none 0 0) 71
      have hq:Below w.heap.size w (w.alloc (.cells #[.slice none 0 0] 71)):=bA _
      have hx1:w1.cell? ⟨w.heap.size,0,none⟩=some (.slice none 0 0):=(hb1.cell (p:=⟨w.heap.size,0,none⟩) (by simp)).trans hn.1
      have fx:w1.frozen? ⟨w.heap.size,0,none⟩=false:=(hb1.frozen (p:=⟨w.heap.size,0,none⟩) (by simp)).trans hn.2
      have hB:=hq.trans (hb1.mono hq.size)
      clear hb1 hq hn
      go_wp2
      refine bodyPost_ret (v:= .tuple #[.agg #[.slice (some ⟨g,0,none⟩) 1 1],.string ⟨#[]⟩]) (by simp [results,Tryz.results89,go_sem,hx1]) rfl ?_
      rw [HR.out]
      exact ⟨hB.setCell (p:=⟨w.heap.size,0,none⟩) (Nat.le_refl _) _,g,by omega,rfl,atomsO_set ha _ (by simp;omega) _⟩
    ·by_cases hyn:y < 0
     ·skip
      have HR:Hid (numOp 13 x y=(some (q - 1),[])):=(by rw [HV.out,HBW.out,hrb,decide_eq_false hr0,decide_eq_true hyn];rfl)
      have HI:=hide (fun w'=>int5_any (q - 1) w')
      have hw4:wrap64 (r+y)=r+y:=wrap_id (by unfold in64 at *;omega)
      go_enter Tryz.func89,Tryz.ntmps89
      go_wp2_with fail
      refine (HI.out _).mono ?_
      rintro e w1 ⟨g,hg,rfl,ha,hb1⟩
      simp only [World.size_alloc] at hg
      have hn:=cell_new w (.slice none 0 0) 71
      have hq:Below w.heap.size w (w.alloc (.cells #[.slice none 0 0] 71)):=bA _
      have hx1:w1.cell? ⟨w.heap.size,0,none⟩=some (.slice none 0 0):=(hb1.cell (p:=⟨w.heap.size,0,none⟩) (by simp)).trans hn.1
      have fx:w1.frozen? ⟨w.heap.size,0,none⟩=false:=(hb1.frozen (p:=⟨w.heap.size,0,none⟩) (by simp)).trans hn.2
      have hB:=hq.trans (hb1.mono hq.size)
      clear hb1 hq hn
      go_wp2
      refine bodyPost_ret (v:= .tuple #[.agg #[.slice (some ⟨g,0,none⟩) 1 1],.string ⟨#[]⟩]) (by simp [results,Tryz.results89,go_sem,hx1]) rfl ?_
      rw [HR.out]
      exact ⟨hB.setCell (p:=⟨w.heap.size,0,none⟩) (Nat.le_refl _) _,g,by omega,rfl,atomsO_set ha _ (by simp;omega) _⟩
     ·skip
      have HR:Hid (numOp 13 x y=(some (q),[])):=(by rw [HV.out,HBW.out,hrb,decide_eq_false hr0,decide_eq_false hyn];rfl)
      have HI:=hide (fun w'=>int5_any (q) w')
      go_enter Tryz.func89,Tryz.ntmps89
      go_wp2_with fail
      refine (HI.out _).mono ?_
      rintro e w1 ⟨g,hg,rfl,ha,hb1⟩
      simp only [World.size_alloc] at hg
      have hn:=cell_new w (.slice none 0 0) 71
      have hq:Below w.heap.size w (w.alloc (.cells #[.slice none 0 0] 71)):=bA _
      have hx1:w1.cell? ⟨w.heap.size,0,none⟩=some (.slice none 0 0):=(hb1.cell (p:=⟨w.heap.size,0,none⟩) (by simp)).trans hn.1
      have fx:w1.frozen? ⟨w.heap.size,0,none⟩=false:=(hb1.frozen (p:=⟨w.heap.size,0,none⟩) (by simp)).trans hn.2
      have hB:=hq.trans (hb1.mono hq.size)
      clear hb1 hq hn
      go_wp2
      refine bodyPost_ret (v:= .tuple #[.agg #[.slice (some ⟨g,0,none⟩) 1 1],.string ⟨#[]⟩]) (by simp [results,Tryz.results89,go_sem,hx1]) rfl ?_
      rw [HR.out]
      exact ⟨hB.setCell (p:=⟨w.heap.size,0,none⟩) (Nat.le_refl _) _,g,by omega,rfl,atomsO_set ha _ (by simp;omega) _⟩
set_option maxHeartbeats 2000000 in
theorem number6_rem (x y:Int) (w:World) (hx:in64 x) (hy:in64 y):Calls Tryz.prog 89 #[.int .i64 14,.int .i64 x,.int .i64 y] w (NumPost w (numOp 14 x y)):=by
 by_cases hy0:y=0
 ·subst hy0
  have HN:=hide (no6_any ⟨#[100,105,118,105,100,101]⟩)
  have HR:Hid (numOp 14 x 0=(none,wDiv)):=(by unfold numOp;rw [if_neg (by decide),if_neg (by decide),if_pos rfl];rfl)
  ·skip
   go_enter Tryz.func89,Tryz.ntmps89
   go_wp2_with fail
   refine (HN.out _).mono ?_
   rintro e w1 ⟨rfl,hb1⟩
   have hn:=cell_new w (.slice none 0 0) 71
   have hq:Below w.heap.size w (w.alloc (.cells #[.slice none 0 0] 71)):=bA _
   have hx1:w1.cell? ⟨w.heap.size,0,none⟩=some (.slice none 0 0):=(hb1.cell (p:=⟨w.heap.size,0,none⟩) (by simp)).trans hn.1
   have fx:w1.frozen? ⟨w.heap.size,0,none⟩=false:=(hb1.frozen (p:=⟨w.heap.size,0,none⟩) (by simp)).trans hn.2
   have hB:=hq.trans (hb1.mono hq.size)
   clear hb1 hq hn
   go_wp2
   refine bodyPost_ret (v:= .tuple #[.agg #[.slice none 0 0],.string ⟨#[100,105,118,105,100,101]⟩]) (by simp [results,Tryz.results89,go_sem,hx1]) rfl ?_
   rw [HR.out]
   exact ⟨hB.setCell (p:=⟨w.heap.size,0,none⟩) (Nat.le_refl _) _,rfl⟩
 ·have hyb:(y == 0)=false:=by simpa using hy0
  by_cases hy1:y = -1
  ·subst hy1
   have HR:Hid (numOp 14 x (-1)=(some 0,[])):=(by unfold numOp;rw [if_neg (by decide),if_neg (by decide),if_neg (by decide),if_neg (by decide)];unfold remV mends;rw [show x.tmod (-1)=0 from by simp];rfl)
   have HI:=hide (fun w'=>int5_any 0 w')
   go_enter Tryz.func89,Tryz.ntmps89
   go_wp2_with fail
   refine (HI.out _).mono ?_
   rintro e w1 ⟨g,hg,rfl,ha,hb1⟩
   simp only [World.size_alloc] at hg
   have hn:=cell_new w (.slice none 0 0) 71
   have hq:Below w.heap.size w (w.alloc (.cells #[.slice none 0 0] 71)):=bA _
   have hx1:w1.cell? ⟨w.heap.size,0,none⟩=some (.slice none 0 0):=(hb1.cell (p:=⟨w.heap.size,0,none⟩) (by simp)).trans hn.1
   have fx:w1.frozen? ⟨w.heap.size,0,none⟩=false:=(hb1.frozen (p:=⟨w.heap.size,0,none⟩) (by simp)).trans hn.2
   have hB:=hq.trans (hb1.mono hq.size)
   clear hb1 hq hn
   go_wp2
   refine bodyPost_ret (v:= .tuple #[.agg #[.slice (some ⟨g,0,none⟩) 1 1],.string ⟨#[]⟩]) (by simp [results,Tryz.results89,go_sem,hx1]) rfl ?_
   rw [HR.out]
   exact ⟨hB.setCell (p:=⟨w.heap.size,0,none⟩) (Nat.le_refl _) _,g,by omega,rfl,atomsO_set ha _ (by simp;omega) _⟩
  ·have hyb1:(y == -1)=false:=by simpa using hy1
   have hb:=tdiv_bound x y hx hy0 hy1
   have hw1:wrap64 (x.tdiv y)=x.tdiv y:=wrap_id hb
   have hmb:=tmod_bound x y hy0
   have hsg:=tmod_sign x y
   have hdm:=Int.mul_tdiv_add_tmod x y
   have hsm:x.tmod y≠0→wrap64 (x.tdiv y - 1)=x.tdiv y - 1:=fun hr=>by
    refine wrap_id ?_
    have hne:y.natAbs≠1:=fun h1=>by omega
    have h2:=Int.natAbs_tdiv x y
    have h3:x.natAbs.div y.natAbs≤x.natAbs / 2:=Nat.div_le_div_left (by omega) (by omega)
    unfold in64 at *;omega
   have HV:Hid (numOp 14 x y=(some (remV x y),[])):=(by unfold numOp;rw [if_neg (by decide),if_neg (by decide),if_neg hy0,if_neg (by decide)];rfl)
   have hval:remV x y=if mends x y then x.tmod y+y else x.tmod y:=rfl
   have hmd:mends x y=((x.tmod y != 0) && (decide (x.tmod y < 0) != decide (y < 0))):=by
    unfold mends
    by_cases hr:x.tmod y=0
    ·rw [hr];rfl
    ·have:decide (x < 0)=decide (x.tmod y < 0):=by
      rw [decide_eq_decide]
      constructor
      ·intro h;have:=hsg.1 h;omega
      ·intro h;exact Classical.byContradiction fun h'=>by have:=hsg.2 h';omega
     rw [this]
   rw [hmd] at hval
   obtain ⟨q,hq⟩:∃ q,x.tdiv y=q:=⟨_,rfl⟩
   obtain ⟨r,hrr⟩:∃ r,x.tmod y=r:=⟨_,rfl⟩
   rw [hq] at hw1 hsm
   rw [hrr] at hsm hmb
   rw [hrr] at hval
   skip
   have hrw:in64 r:=by unfold in64 at *;omega
   clear hdm hsg hmd hb
   have HBW:Hid (remV x y=_):=hval
   clear hval
   by_cases hr:r=0
   ·subst hr
    have HR:Hid (numOp 14 x y=(some 0,[])):=(by rw [HV.out,HBW.out];rfl)
    have HI:=hide (fun w'=>int5_any 0 w')
    clear hsm hmb
    go_enter Tryz.func89,Tryz.ntmps89
    go_wp2_with fail
    refine (HI.out _).mono ?_
    rintro e w1 ⟨g,hg,rfl,ha,hb1⟩
    simp only [World.size_alloc] at hg
    have hn:=cell_new w (.slice none 0 0) 71
    have hq:Below w.heap.size w (w.alloc (.cells #[.slice none 0 0] 71)):=bA _
    have hx1:w1.cell? ⟨w.heap.size,0,none⟩=some (.slice none 0 0):=(hb1.cell (p:=⟨w.heap.size,0,none⟩) (by simp)).trans hn.1
    have fx:w1.frozen? ⟨w.heap.size,0,none⟩=false:=(hb1.frozen (p:=⟨w.heap.size,0,none⟩) (by simp)).trans hn.2
    have hB:=hq.trans (hb1.mono hq.size)
    clear hb1 hq hn
    go_wp2
    refine bodyPost_ret (v:= .tuple #[.agg #[.slice (some ⟨g,0,none⟩) 1 1],.string ⟨#[]⟩]) (by simp [results,Tryz.results89,go_sem,hx1]) rfl ?_
    rw [HR.out]
    exact ⟨hB.setCell (p:=⟨w.heap.size,0,none⟩) (Nat.le_refl _) _,g,by omega,rfl,atomsO_set ha _ (by simp;omega) _⟩
   ·have hrb:(r != 0)=true:=by simpa using hr
    have hw3:=hsm hr
    clear hsm
    by_cases hr0:r < 0
    ·by_cases hyn:y < 0
     ·skip
      have HR:Hid (numOp 14 x y=(some (r),[])):=(by rw [HV.out,HBW.out,hrb,decide_eq_true hr0,decide_eq_true hyn];rfl)
      have HI:=hide (fun w'=>int5_any (r) w')
      go_enter Tryz.func89,Tryz.ntmps89
      go_wp2_with fail
      refine (HI.out _).mono ?_
      rintro e w1 ⟨g,hg,rfl,ha,hb1⟩
      simp only [World.size_alloc] at hg
      have hn:=cell_new w (.slice none 0 0) 71
      have hq:Below w.heap.size w (w.alloc (.cells #[.slice none 0 0] 71)):=bA _
      have hx1:w1.cell? ⟨w.heap.size,0,none⟩=some (.slice none 0 0):=(hb1.cell (p:=⟨w.heap.size,0,none⟩) (by simp)).trans hn.1
      have fx:w1.frozen? ⟨w.heap.size,0,none⟩=false:=(hb1.frozen (p:=⟨w.heap.size,0,none⟩) (by simp)).trans hn.2
      have hB:=hq.trans (hb1.mono hq.size)
      clear hb1 hq hn
      go_wp2
      refine bodyPost_ret (v:= .tuple #[.agg #[.slice (some ⟨g,0,none⟩) 1 1],.string ⟨#[]⟩]) (by simp [results,Tryz.results89,go_sem,hx1]) rfl ?_
      rw [HR.out]
      exact ⟨hB.setCell (p:=⟨w.heap.size,0,none⟩) (Nat.le_refl _) _,g,by omega,rfl,atomsO_set ha _ (by simp;omega) _⟩
     ·skip
      have HR:Hid (numOp 14 x y=(some (r+y),[])):=(by rw [HV.out,HBW.out,hrb,decide_eq_true hr0,decide_eq_false hyn];rfl)
      have HI:=hide (fun w'=>int5_any (r+y) w')
      have hw4:wrap64 (r+y)=r+y:=wrap_id (by unfold in64 at *;omega)
      go_enter Tryz.func89,Tryz.ntmps89
      go_wp2_with fail
      refine (HI.out _).mono ?_
      rintro e w1 ⟨g,hg,rfl,ha,hb1⟩
      simp only [World.size_alloc] at hg
      have hn:=cell_new w (.slice none 0 0) 71
      have hq:Below w.heap.size w (w.alloc (.cells #[.slice none 0 0] 71)):=bA _
      have hx1:w1.cell? ⟨w.heap.size,0,none⟩=some (.slice none 0 0):=(hb1.cell (p:=⟨w.heap.size,0,none⟩) (by simp)).trans hn.1
      have fx:w1.frozen? ⟨w.heap.size,0,none⟩=false:=(hb1.frozen (p:=⟨w.heap.size,0,none⟩) (by simp)).trans hn.2
      have hB:=hq.trans (hb1.mono hq.size)
      clear hb1 hq hn
      go_wp2
      refine bodyPost_ret (v:= .tuple #[.agg #[.slice (some ⟨g,0,none⟩) 1 1],.string ⟨#[]⟩]) (by simp [results,Tryz.results89,go_sem,hx1]) rfl ?_
      rw [HR.out]
      exact ⟨hB.setCell (p:=⟨w.heap.size,0,none⟩) (Nat.le_refl _) _,g,by omega,rfl,atomsO_set ha _ (by simp;omega) _⟩
    ·by_cases hyn:y < 0
     ·skip
      have HR:Hid (numOp 14 x y=(some (r+y),[])):=(by rw [HV.out,HBW.out,hrb,decide_eq_false hr0,decide_eq_true hyn];rfl)
      have HI:=hide (fun w'=>int5_any (r+y) w')
      have hw4:wrap64 (r+y)=r+y:=wrap_id (by unfold in64 at *;omega)
      go_enter Tryz.func89,Tryz.ntmps89
      go_wp2_with fail
      refine (HI.out _).mono ?_
      rintro e w1 ⟨g,hg,rfl,ha,hb1⟩
      simp only [World.size_alloc] at hg
      have hn:=cell_new w (.slice none 0 0) 71
      have hq:Below w.heap.size w (w.alloc (.cells #[.slice none 0 0] 71)):=bA _
      have hx1:w1.cell? ⟨w.heap.size,0,none⟩=some (.slice none 0 0):=(hb1.cell (p:=⟨w.heap.size,0,none⟩) (by simp)).trans hn.1
      have fx:w1.frozen? ⟨w.heap.size,0,none⟩=false:=(hb1.frozen (p:=⟨w.heap.size,0,none⟩) (by simp)).trans hn.2
      have hB:=hq.trans (hb1.mono hq.size)
      clear hb1 hq hn
      go_wp2
      refine bodyPost_ret (v:= .tuple #[.agg #[.slice (some ⟨g,0,none⟩) 1 1],.string ⟨#[]⟩]) (by simp [results,Tryz.results89,go_sem,hx1]) rfl ?_
      rw [HR.out]
      exact ⟨hB.setCell (p:=⟨w.heap.size,0,none⟩) (Nat.le_refl _) _,g,by omega,rfl,atomsO_set ha _ (by simp;omega) _⟩
     ·skip
      have HR:Hid (numOp 14 x y=(some (r),[])):=(by rw [HV.out,HBW.out,hrb,decide_eq_false hr0,decide_eq_false hyn];rfl)
      have HI:=hide (fun w'=>int5_any (r) w')
      go_enter Tryz.func89,Tryz.ntmps89
      go_wp2_with fail
      refine (HI.out _).mono ?_
      rintro e w1 ⟨g,hg,rfl,ha,hb1⟩
      simp only [World.size_alloc] at hg
      have hn:=cell_new w (.slice none 0 0) 71
      have hq:Below w.heap.size w (w.alloc (.cells #[.slice none 0 0] 71)):=bA _
      have hx1:w1.cell? ⟨w.heap.size,0,none⟩=some (.slice none 0 0):=(hb1.cell (p:=⟨w.heap.size,0,none⟩) (by simp)).trans hn.1
      have fx:w1.frozen? ⟨w.heap.size,0,none⟩=false:=(hb1.frozen (p:=⟨w.heap.size,0,none⟩) (by simp)).trans hn.2
      have hB:=hq.trans (hb1.mono hq.size)
      clear hb1 hq hn
      go_wp2
      refine bodyPost_ret (v:= .tuple #[.agg #[.slice (some ⟨g,0,none⟩) 1 1],.string ⟨#[]⟩]) (by simp [results,Tryz.results89,go_sem,hx1]) rfl ?_
      rw [HR.out]
      exact ⟨hB.setCell (p:=⟨w.heap.size,0,none⟩) (Nat.le_refl _) _,g,by omega,rfl,atomsO_set ha _ (by simp;omega) _⟩
end Go.Proofs.YthbojbbmpcmoaaaGreatDoor.Vl
