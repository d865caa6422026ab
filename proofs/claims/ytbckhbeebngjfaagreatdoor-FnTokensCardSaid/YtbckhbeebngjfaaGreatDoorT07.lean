/- Hf, Hh, Hi. -/
import Derived.Test.YtbckhbeebngjfaaGreatDoorT06
namespace Go.Proofs.YtbckhbeebngjfaaGreatDoor
open Go.RowKit
def Pr.phi (ts:List Sc.T) (s:Pr.Dk):Nat:=s.out.length+4*(ts.length - s.p)
theorem Pr.Stp.phi {ts:List Sc.T} {s r:Pr.Dk} {x:Int} (h:Pr.Stp ts s r x) (hx:x≤0) (h0:s.p≤ts.length) (hN:Pr.phi ts s≤1000000):Pr.phi ts r≤1000000:=by
 obtain ⟨a,b,c,d⟩:=h
 unfold Pr.phi at *
 omega
theorem Pr.Stp.len {ts:List Sc.T} {s r:Pr.Dk} {x:Int} (h:Pr.Stp ts s r x) (hx:x≤100) (h0:s.p≤ts.length) (hN:Pr.phi ts s≤1000000):r.out.length≤100000000:=by
 obtain ⟨a,b,c,d⟩:=h
 unfold Pr.phi at *
 omega
section
variable {b tg tc:Nat} {ts:List Sc.T} {sz:Nat} {v:Value} {s:Pr.Dk} {w:World}
theorem takeY (h:DK b tg tc ts sz v s w) (t:List UInt8) (a:Array UInt8) (ha:a.toList=t) (hi:Pr.is ts sz s t=true) :
  Calls Tryz.prog 75 #[.pointer (some ⟨b,0,none⟩),.string ⟨a⟩] w fun e w'=>e = .returned (.bool true)∧DPost b tg tc ts sz v w (Pr.adv s) w':=by
 have:=take_any h ⟨a⟩
 simp only [ha,hi,Pr.take,if_true] at this
 exact this.mono fun _ _ ⟨h1,h2,h3⟩=>⟨h1,v,h2,h3⟩
theorem takeN (h:DK b tg tc ts sz v s w) (t:List UInt8) (a:Array UInt8) (ha:a.toList=t) (hi:Pr.is ts sz s t=false) :
  Calls Tryz.prog 75 #[.pointer (some ⟨b,0,none⟩),.string ⟨a⟩] w fun e w'=>e = .returned (.bool false)∧DPost b tg tc ts sz v w s w':=by
 have:=take_any h ⟨a⟩
 simp only [ha,hi,Pr.take,Bool.false_eq_true,if_false] at this
 exact this.mono fun _ _ ⟨h1,h2,h3⟩=>⟨h1,v,h2,h3⟩
theorem needW (h:DK b tg tc ts sz v s w) (t:List UInt8) (a:Array UInt8) (ha:a.toList=t) :
  Calls Tryz.prog 78 #[.pointer (some ⟨b,0,none⟩),.string ⟨a⟩] w fun e w'=>e = .returned (.tuple #[])∧DPost b tg tc ts sz v w (Pr.need ts sz s t) w':=by
 have:=need_any h ⟨a⟩
 simp only [ha] at this
 exact this.mono fun _ _ ⟨h1,h2,h3⟩=>⟨h1,v,h2,h3⟩
theorem nameW (h:DK b tg tc ts sz v s w) :
  Calls Tryz.prog 76 #[.pointer (some ⟨b,0,none⟩)] w fun e w'=>e = .returned (.string ⟨(Pr.nameT ts sz s).toArray⟩)∧DPost b tg tc ts sz v w (Pr.name ts sz s) w' :=
 (name_any h).mono fun _ _ ⟨h1,h2,h3⟩=>⟨h1,v,h2,h3⟩
end
def Pr.Says (b tg tc:Nat) (ts:List Sc.T) (sz:Nat) (f:FuncId) (xs:List Value) (ret:Nat→Value) (c:Pr.Cmd) (s:Pr.Dk):Prop :=
 ∀ (v:Value) (w:World),DK b tg tc ts sz v s w→Pr.phi ts s≤1000000→Calls Tryz.prog f (Value.pointer (some ⟨b,0,none⟩) :: xs).toArray w fun e w'=>∃ r:Pr.Dk × Nat,e = .returned (ret r.2)∧Pr.Cv ts sz c s r∧DPost b tg tc ts sz v w r.1 w'
def Pr.un (_:Nat):Value:= .tuple #[]
def Pr.nu (n:Nat):Value:= .int .i64 n
abbrev Pr.SE (b tg tc:Nat) (ts:List Sc.T) (sz:Nat) (s:Pr.Dk):Prop:=Pr.Says b tg tc ts sz 79 [] Pr.un .e s
abbrev Pr.SP (b tg tc:Nat) (ts:List Sc.T) (sz:Nat) (s:Pr.Dk):Prop:=Pr.Says b tg tc ts sz 77 [] Pr.nu .params s
abbrev Pr.SO (b tg tc:Nat) (ts:List Sc.T) (sz:Nat) (r:Nat) (s:Pr.Dk):Prop:=Pr.Says b tg tc ts sz 89 [.int .i64 r] Pr.un (.ops r) s
abbrev Pr.ST (b tg tc:Nat) (ts:List Sc.T) (sz:Nat) (s:Pr.Dk):Prop:=Pr.Says b tg tc ts sz 101 [] Pr.un .post s
abbrev Pr.SA (b tg tc:Nat) (ts:List Sc.T) (sz:Nat) (s:Pr.Dk):Prop:=Pr.Says b tg tc ts sz 115 [] Pr.nu .args s
abbrev Pr.SL (b tg tc:Nat) (ts:List Sc.T) (sz:Nat) (s:Pr.Dk):Prop:=Pr.Says b tg tc ts sz 117 [] Pr.un .list s
abbrev Pr.SR (b tg tc:Nat) (ts:List Sc.T) (sz:Nat) (s:Pr.Dk):Prop:=Pr.Says b tg tc ts sz 118 [] Pr.un .record s
abbrev Pr.SI (b tg tc:Nat) (ts:List Sc.T) (sz:Nat) (s:Pr.Dk):Prop:=Pr.Says b tg tc ts sz 114 [] Pr.un .single s
set_option maxRecDepth 100000 in
set_option maxHeartbeats 1000000 in
theorem e_says {b tg tc:Nat} {ts:List Sc.T} {sz:Nat} {s:Pr.Dk} (ihE:∀ q:Pr.Dk,s.p < q.p→q.p≤ts.length→Pr.SE b tg tc ts sz q) (ihP:∀ q:Pr.Dk,s.p < q.p→q.p≤ts.length→Pr.SP b tg tc ts sz q) (ihO:Pr.SO b tg tc ts sz 1 s):Pr.SE b tg tc ts sz s:=by
 intro v0 w0 hd0 hN
 have h0:=hd0.le
 have HD0:=hide hd0
 have HG0:=hide (Pr.Gr.refl b v0 w0)
 have HS0:=hide (Pr.Stp.refl h0)
 clear hd0
 cases hi1:Pr.is ts sz s Pr.sLet
 ·cases hi2:Pr.is ts sz s Pr.sIf
  ·cases hi3:Pr.is ts sz s Pr.sFn
   ·go_enter Tryz.func79,Tryz.ntmps79
    have Q1:=hide (takeN HD0.out Pr.sLet #[108,101,116] rfl hi1)
    go_wp2_with fail
    refine Q1.out.mono ?_
    rintro e1 w1 ⟨rfl,v1,hd1,hg1⟩
    have HD1:=hide hd1
    have HG1:=hide (HG0.out.trans hg1)
    have HS1:=hide (HS0.out)
    clear hd1 hg1 Q1
    have Q2:=hide (takeN HD1.out Pr.sIf #[105,102] rfl hi2)
    go_wp2_with fail
    refine Q2.out.mono ?_
    rintro e2 w2 ⟨rfl,v2,hd2,hg2⟩
    have HD2:=hide hd2
    have HG2:=hide (HG1.out.trans hg2)
    have HS2:=hide (HS1.out)
    clear hd2 hg2 Q2
    have Q3:=hide (takeN HD2.out Pr.sFn #[102,110] rfl hi3)
    go_wp2_with fail
    refine Q3.out.mono ?_
    rintro e3 w3 ⟨rfl,v3,hd3,hg3⟩
    have HD3:=hide hd3
    have HG3:=hide (HG2.out.trans hg3)
    have HS3:=hide (HS2.out)
    clear hd3 hg3 Q3
    have Q4:=hide (ihO _ _ HD3.out (HS3.out.phi (by first | omega | (simp only [Pr.extra];omega)) h0 hN))
    go_wp2_with fail
    refine Q4.out.mono ?_
    rintro e4 w4 ⟨r4,rfl,hc4,v4,hd4,hg4⟩
    have HC4:=hide hc4
    have HD4:=hide hd4
    have HG4:=hide (HG3.out.trans hg4)
    have HS4:=hide (HS3.out.trans (hc4.stp HS3.out.le))
    clear hc4 hd4 hg4 Q4
    go_wp2
    (first | go_end0 | refine bodyPost_ret (results_none rfl _ _ _) rfl ?_)
    exact ⟨r4,rfl,Pr.Cv.e_ops hi1 hi2 hi3 HC4.out,v4,HD4.out,HG4.out⟩
   ·go_enter Tryz.func79,Tryz.ntmps79
    have Q1:=hide (takeN HD0.out Pr.sLet #[108,101,116] rfl hi1)
    go_wp2_with fail
    refine Q1.out.mono ?_
    rintro e1 w1 ⟨rfl,v1,hd1,hg1⟩
    have HD1:=hide hd1
    have HG1:=hide (HG0.out.trans hg1)
    have HS1:=hide (HS0.out)
    clear hd1 hg1 Q1
    have Q2:=hide (takeN HD1.out Pr.sIf #[105,102] rfl hi2)
    go_wp2_with fail
    refine Q2.out.mono ?_
    rintro e2 w2 ⟨rfl,v2,hd2,hg2⟩
    have HD2:=hide hd2
    have HG2:=hide (HG1.out.trans hg2)
    have HS2:=hide (HS1.out)
    clear hd2 hg2 Q2
    have Q3:=hide (takeY HD2.out Pr.sFn #[102,110] rfl hi3)
    go_wp2_with fail
    refine Q3.out.mono ?_
    rintro e3 w3 ⟨rfl,v3,hd3,hg3⟩
    have HD3:=hide hd3
    have HG3:=hide (HG2.out.trans hg3)
    have HS3:=hide (HS2.out.adv hi3)
    clear hd3 hg3 Q3
    have HA3:=hide (Pr.Stp.refl HS3.out.le)
    have Q4:=hide (ihP _ HA3.out.ge HS3.out.le _ _ HD3.out (HS3.out.phi (by first | omega | (simp only [Pr.extra];omega)) h0 hN))
    go_wp2_with fail
    refine Q4.out.mono ?_
    rintro e4 w4 ⟨r4,rfl,hc4,v4,hd4,hg4⟩
    have HC4:=hide hc4
    have HD4:=hide hd4
    have HG4:=hide (HG3.out.trans hg4)
    have HS4:=hide (HS3.out.trans (hc4.stp HS3.out.le))
    have HA4:=hide (HA3.out.trans (hc4.stp HA3.out.le))
    clear hc4 hd4 hg4 Q4
    have hn1:=HC4.out.num rfl (Pr.is_lt hi3)
    have hl1:=HS4.out.le
    have hm:=HD0.out.most
    simp only [Pr.cnt] at hn1
    unfold Pr.nu
    have Q5:=hide (needW HD4.out [61,62] #[61,62] rfl)
    go_wp2_with fail
    refine Q5.out.mono ?_
    rintro e5 w5 ⟨rfl,v5,hd5,hg5⟩
    have HD5:=hide hd5
    have HG5:=hide (HG4.out.trans hg5)
    have HS5:=hide (HS4.out.need (sz:=sz) [61,62])
    have HA5:=hide (HA4.out.need (sz:=sz) [61,62])
    clear hd5 hg5 Q5
    have Q6:=hide (ihE _ HA5.out.ge HS5.out.le _ _ HD5.out (HS5.out.phi (by first | omega | (simp only [Pr.extra];omega)) h0 hN))
    go_wp2_with fail
    refine Q6.out.mono ?_
    rintro e6 w6 ⟨r6,rfl,hc6,v6,hd6,hg6⟩
    have HC6:=hide hc6
    have HD6:=hide hd6
    have HG6:=hide (HG5.out.trans hg6)
    have HS6:=hide (HS5.out.trans (hc6.stp HS5.out.le))
    have HA6:=hide (HA5.out.trans (hc6.stp HA5.out.le))
    clear hc6 hd6 hg6 Q6
    have Q7:=hide (put_any HD6.out (HS6.out.len (by first | omega | (simp only [Pr.extra];omega)) h0 hN) 15 0 0 [] (r4.2+1))
    go_wp2_with fail
    refine Q7.out.mono ?_
    rintro e7 w7 ⟨rfl,v7,hd7,hg7⟩
    have HD7:=hide hd7
    have HG7:=hide (HG6.out.trans hg7)
    have HS7:=hide (HS6.out.put 15 0 0 [] (r4.2+1))
    have HA7:=hide (HA6.out.put 15 0 0 [] (r4.2+1))
    clear hd7 hg7 Q7
    go_wp2
    (first | go_end0 | refine bodyPost_ret (results_none rfl _ _ _) rfl ?_)
    exact ⟨(_,0),rfl,Pr.Cv.e_fn hi1 hi2 hi3 HC4.out HC6.out,v7,HD7.out,HG7.out⟩
  ·go_enter Tryz.func79,Tryz.ntmps79
   have Q1:=hide (takeN HD0.out Pr.sLet #[108,101,116] rfl hi1)
   go_wp2_with fail
   refine Q1.out.mono ?_
   rintro e1 w1 ⟨rfl,v1,hd1,hg1⟩
   have HD1:=hide hd1
   have HG1:=hide (HG0.out.trans hg1)
   have HS1:=hide (HS0.out)
   clear hd1 hg1 Q1
   have Q2:=hide (takeY HD1.out Pr.sIf #[105,102] rfl hi2)
   go_wp2_with fail
   refine Q2.out.mono ?_
   rintro e2 w2 ⟨rfl,v2,hd2,hg2⟩
   have HD2:=hide hd2
   have HG2:=hide (HG1.out.trans hg2)
   have HS2:=hide (HS1.out.adv hi2)
   clear hd2 hg2 Q2
   have HA2:=hide (Pr.Stp.refl HS2.out.le)
   have Q3:=hide (ihE _ HA2.out.ge HS2.out.le _ _ HD2.out (HS2.out.phi (by first | omega | (simp only [Pr.extra];omega)) h0 hN))
   go_wp2_with fail
   refine Q3.out.mono ?_
   rintro e3 w3 ⟨r3,rfl,hc3,v3,hd3,hg3⟩
   have HC3:=hide hc3
   have HD3:=hide hd3
   have HG3:=hide (HG2.out.trans hg3)
   have HS3:=hide (HS2.out.trans (hc3.stp HS2.out.le))
   have HA3:=hide (HA2.out.trans (hc3.stp HA2.out.le))
   clear hc3 hd3 hg3 Q3
   have Q4:=hide (needW HD3.out Pr.sThen #[116,104,101,110] rfl)
   go_wp2_with fail
   refine Q4.out.mono ?_
   rintro e4 w4 ⟨rfl,v4,hd4,hg4⟩
   have HD4:=hide hd4
   have HG4:=hide (HG3.out.trans hg4)
   have HS4:=hide (HS3.out.need (sz:=sz) Pr.sThen)
   have HA4:=hide (HA3.out.need (sz:=sz) Pr.sThen)
   clear hd4 hg4 Q4
   have Q5:=hide (ihE _ HA4.out.ge HS4.out.le _ _ HD4.out (HS4.out.phi (by first | omega | (simp only [Pr.extra];omega)) h0 hN))
   go_wp2_with fail
   refine Q5.out.mono ?_
   rintro e5 w5 ⟨r5,rfl,hc5,v5,hd5,hg5⟩
   have HC5:=hide hc5
   have HD5:=hide hd5
   have HG5:=hide (HG4.out.trans hg5)
   have HS5:=hide (HS4.out.trans (hc5.stp HS4.out.le))
   have HA5:=hide (HA4.out.trans (hc5.stp HA4.out.le))
   clear hc5 hd5 hg5 Q5
   have Q6:=hide (needW HD5.out Pr.sElse #[101,108,115,101] rfl)
   go_wp2_with fail
   refine Q6.out.mono ?_
   rintro e6 w6 ⟨rfl,v6,hd6,hg6⟩
   have HD6:=hide hd6
   have HG6:=hide (HG5.out.trans hg6)
   have HS6:=hide (HS5.out.need (sz:=sz) Pr.sElse)
   have HA6:=hide (HA5.out.need (sz:=sz) Pr.sElse)
   clear hd6 hg6 Q6
   have Q7:=hide (ihE _ HA6.out.ge HS6.out.le _ _ HD6.out (HS6.out.phi (by first | omega | (simp only [Pr.extra];omega)) h0 hN))
   go_wp2_with fail
   refine Q7.out.mono ?_
   rintro e7 w7 ⟨r7,rfl,hc7,v7,hd7,hg7⟩
   have HC7:=hide hc7
   have HD7:=hide hd7
   have HG7:=hide (HG6.out.trans hg7)
   have HS7:=hide (HS6.out.trans (hc7.stp HS6.out.le))
   have HA7:=hide (HA6.out.trans (hc7.stp HA6.out.le))
   clear hc7 hd7 hg7 Q7
   have Q8:=hide (put_any HD7.out (HS7.out.len (by first | omega | (simp only [Pr.extra];omega)) h0 hN) 13 0 0 [] 3)
   go_wp2_with fail
   refine Q8.out.mono ?_
   rintro e8 w8 ⟨rfl,v8,hd8,hg8⟩
   have HD8:=hide hd8
   have HG8:=hide (HG7.out.trans hg8)
   have HS8:=hide (HS7.out.put 13 0 0 [] 3)
   have HA8:=hide (HA7.out.put 13 0 0 [] 3)
   clear hd8 hg8 Q8
   go_wp2
   (first | go_end0 | refine bodyPost_ret (results_none rfl _ _ _) rfl ?_)
   exact ⟨(_,0),rfl,Pr.Cv.e_if hi1 hi2 HC3.out HC5.out HC7.out,v8,HD8.out,HG8.out⟩
 ·go_enter Tryz.func79,Tryz.ntmps79
  have Q1:=hide (takeY HD0.out Pr.sLet #[108,101,116] rfl hi1)
  go_wp2_with fail
  refine Q1.out.mono ?_
  rintro e1 w1 ⟨rfl,v1,hd1,hg1⟩
  have HD1:=hide hd1
  have HG1:=hide (HG0.out.trans hg1)
  have HS1:=hide (HS0.out.adv hi1)
  clear hd1 hg1 Q1
  have HA1:=hide (Pr.Stp.refl HS1.out.le)
  have Q2:=hide (nameW HD1.out)
  go_wp2_with fail
  refine Q2.out.mono ?_
  rintro e2 w2 ⟨rfl,v2,hd2,hg2⟩
  have HD2:=hide hd2
  have HG2:=hide (HG1.out.trans hg2)
  have HS2:=hide (HS1.out.name (sz:=sz))
  have HA2:=hide (HA1.out.name (sz:=sz))
  clear hd2 hg2 Q2
  have Q3:=hide (needW HD2.out [61] #[61] rfl)
  go_wp2_with fail
  refine Q3.out.mono ?_
  rintro e3 w3 ⟨rfl,v3,hd3,hg3⟩
  have HD3:=hide hd3
  have HG3:=hide (HG2.out.trans hg3)
  have HS3:=hide (HS2.out.need (sz:=sz) [61])
  have HA3:=hide (HA2.out.need (sz:=sz) [61])
  clear hd3 hg3 Q3
  have Q4:=hide (ihE _ HA3.out.ge HS3.out.le _ _ HD3.out (HS3.out.phi (by first | omega | (simp only [Pr.extra];omega)) h0 hN))
  go_wp2_with fail
  refine Q4.out.mono ?_
  rintro e4 w4 ⟨r4,rfl,hc4,v4,hd4,hg4⟩
  have HC4:=hide hc4
  have HD4:=hide hd4
  have HG4:=hide (HG3.out.trans hg4)
  have HS4:=hide (HS3.out.trans (hc4.stp HS3.out.le))
  have HA4:=hide (HA3.out.trans (hc4.stp HA3.out.le))
  clear hc4 hd4 hg4 Q4
  have Q5:=hide (needW HD4.out Pr.sIn #[105,110] rfl)
  go_wp2_with fail
  refine Q5.out.mono ?_
  rintro e5 w5 ⟨rfl,v5,hd5,hg5⟩
  have HD5:=hide hd5
  have HG5:=hide (HG4.out.trans hg5)
  have HS5:=hide (HS4.out.need (sz:=sz) Pr.sIn)
  have HA5:=hide (HA4.out.need (sz:=sz) Pr.sIn)
  clear hd5 hg5 Q5
  have Q6:=hide (ihE _ HA5.out.ge HS5.out.le _ _ HD5.out (HS5.out.phi (by first | omega | (simp only [Pr.extra];omega)) h0 hN))
  go_wp2_with fail
  refine Q6.out.mono ?_
  rintro e6 w6 ⟨r6,rfl,hc6,v6,hd6,hg6⟩
  have HC6:=hide hc6
  have HD6:=hide hd6
  have HG6:=hide (HG5.out.trans hg6)
  have HS6:=hide (HS5.out.trans (hc6.stp HS5.out.le))
  have HA6:=hide (HA5.out.trans (hc6.stp HA5.out.le))
  clear hc6 hd6 hg6 Q6
  have Q7:=hide (put_any HD6.out (HS6.out.len (by first | omega | (simp only [Pr.extra];omega)) h0 hN) 14 0 0 (Pr.nameT ts sz (Pr.adv s)) 2)
  go_wp2_with fail
  refine Q7.out.mono ?_
  rintro e7 w7 ⟨rfl,v7,hd7,hg7⟩
  have HD7:=hide hd7
  have HG7:=hide (HG6.out.trans hg7)
  have HS7:=hide (HS6.out.put 14 0 0 (Pr.nameT ts sz (Pr.adv s)) 2)
  have HA7:=hide (HA6.out.put 14 0 0 (Pr.nameT ts sz (Pr.adv s)) 2)
  clear hd7 hg7 Q7
  go_wp2
  (first | go_end0 | refine bodyPost_ret (results_none rfl _ _ _) rfl ?_)
  exact ⟨(_,0),rfl,Pr.Cv.e_let hi1 HC4.out HC6.out,v7,HD7.out,HG7.out⟩
set_option maxRecDepth 100000 in
set_option maxHeartbeats 1000000 in
theorem rankP_any (o:Nat) (w:World):Calls Tryz.prog 73 #[.int .i64 o] w fun e w'=>e = .returned (.int .i64 (Pr.rank o))∧w'=w:=by
 by_cases h1:o≤2
 ·have e1:(o:Int)≤2:=by omega
  have e:Pr.rank o=o:=by unfold Pr.rank;rw [if_pos h1]
  rw [e]
  go_enter Tryz.func73,Tryz.ntmps73
  go_wp2
  go_ret
  exact ⟨rfl,rfl⟩
 ·have e1:¬ (o:Int)≤2:=by omega
  by_cases h2:o≤9
  ·have e2:(o:Int)≤9:=by omega
   have e:Pr.rank o=4:=by unfold Pr.rank;rw [if_neg h1,if_pos h2]
   rw [e]
   go_enter Tryz.func73,Tryz.ntmps73
   go_wp2
   go_ret
   exact ⟨rfl,rfl⟩
  ·have e2:¬ (o:Int)≤9:=by omega
   by_cases h3:o≤11
   ·have e3:(o:Int)≤11:=by omega
    have e:Pr.rank o=5:=by unfold Pr.rank;rw [if_neg h1,if_neg h2,if_pos h3]
    rw [e]
    go_enter Tryz.func73,Tryz.ntmps73
    go_wp2
    go_ret
    exact ⟨rfl,rfl⟩
   ·have e3:¬ (o:Int)≤11:=by omega
    have e:Pr.rank o=6:=by unfold Pr.rank;rw [if_neg h1,if_neg h2,if_neg h3]
    rw [e]
    go_enter Tryz.func73,Tryz.ntmps73
    go_wp2
    go_ret
    exact ⟨rfl,rfl⟩
def MPost (w:World) (o:Nat) (e:Ending) (w':World):Prop:=e = .returned (.string ⟨(Pr.mark o).toArray⟩)∧Below w.heap.size w w'
set_option maxRecDepth 100000 in
set_option maxHeartbeats 4000000 in
theorem markP_any (o:Nat) (w:World) (h1:1≤o) (ho:o≤14):Calls Tryz.prog 74 #[.int .i64 o] w (MPost w o):=by
 have hb:=((Below.refl w.heap.size w).alloc (Nat.le_refl _) (.cells #[.string ⟨#[]⟩,.string ⟨#[111,114]⟩,.string ⟨#[97,110,100]⟩,.string ⟨#[61,61]⟩,.string ⟨#[33,61]⟩,.string ⟨#[60]⟩,.string ⟨#[60,61]⟩,.string ⟨#[62]⟩,.string ⟨#[62,61]⟩,.string ⟨#[104,97,115]⟩,.string ⟨#[43]⟩,.string ⟨#[45]⟩,.string ⟨#[42]⟩,.string ⟨#[47]⟩,.string ⟨#[37]⟩] 9))
 have hc:o=1∨o=2∨o=3∨o=4∨o=5∨o=6∨o=7∨o=8∨o=9∨o=10∨o=11∨o=12∨o=13∨o=14:=by omega
 have HB:=hide hb
 clear hb h1 ho
 rcases hc with rfl | rfl | rfl | rfl | rfl | rfl | rfl | rfl | rfl | rfl | rfl | rfl | rfl | rfl
 all_goals
  go_enter Tryz.func74,Tryz.ntmps74
  go_wp2
  go_ret
  exact ⟨rfl,HB.out⟩
theorem Pr.opFrom_yes {ts:List Sc.T} {sz:Nat} {s:Pr.Dk} {r o:Nat} (ho:o≤14) (h1:Pr.rank o=r) (h2:Pr.is ts sz s (Pr.mark o)=true):Pr.opFrom ts sz s r (15 - o) o=o:=by
 rw [show 15 - o=(14 - o)+1 from by omega,Pr.opFrom,h1,h2];simp
theorem Pr.opFrom_no {ts:List Sc.T} {sz:Nat} {s:Pr.Dk} {r o:Nat} (ho:o≤14) (h:Pr.rank o=r→Pr.is ts sz s (Pr.mark o)=false):Pr.opFrom ts sz s r (15 - o) o=Pr.opFrom ts sz s r (15 - (o+1)) (o+1):=by
 rw [show 15 - o=(14 - o)+1 from by omega,Pr.opFrom,show 15 - (o+1)=14 - o from by omega]
 by_cases h1:Pr.rank o=r
 ·rw [h h1];simp
 ·simp [h1]
set_option maxRecDepth 100000 in
set_option maxHeartbeats 4000000 in
theorem op_any {b tg tc:Nat} {ts:List Sc.T} {sz:Nat} {v:Value} {s:Pr.Dk} {w:World} (h:DK b tg tc ts sz v s w) (r:Nat) :
  Calls Tryz.prog 102 #[.pointer (some ⟨b,0,none⟩),.int .i64 r] w fun e w'=>e = .returned (.int .i64 (Pr.op ts sz s r))∧Below w.heap.size w w':=by
 have HH:=hide h
 clear h
 go_enter Tryz.func102,Tryz.ntmps102
 go_wp2_with fail
 go_loopw [5] (fun t wr=>∃ o:Nat,1≤o∧o≤15∧t = .int .i64 o∧Pr.op ts sz s r=Pr.opFrom ts sz s r (15 - o) o∧Below w.heap.size w wr) (fun t _=>15 - (intOf t).toNat)
 case atStart=>exact ⟨1,by omega,by omega,rfl,rfl,Below.refl _ _⟩
 case round =>
  obtain ⟨o,ho1,ho2,rfl,he,hB⟩:=hrel
  have HE:=hide he
  have HB:=hide hB
  clear he hB
  by_cases hlt:o≤14
  ·have hlt1:(o:Int)≤14:=by omega
   have HR:=hide (fun W=>rankP_any o W)
   by_cases hr:Pr.rank o=r
   ·have hri:((Pr.rank o:Nat):Int)=r:=by omega
    have HM:=hide (fun W=>markP_any o W ho1 hlt)
    cases hi:Pr.is ts sz s (Pr.mark o)
    ·have HN:=hide (Pr.opFrom_no (ts:=ts) (sz:=sz) (s:=s) hlt (fun _=>hi) (r:=r))
     go_wp2_with (first
      | (go_at_call 73;refine (HR.out _).mono ?_;rintro e w1 ⟨rfl,rfl⟩;rw [hri])
      | (go_at_call 74;refine (HM.out _).mono ?_;rintro e w2 ⟨rfl,hb2⟩;have bb2:=HB.out.trans (hb2.mono HB.out.size);have HB2:=hide bb2;clear hb2 bb2)
      | (go_at_call 88;refine (is_any (HH.out.below HB2.out) _).mono ?_;rintro e w3 ⟨rfl,hb3⟩;have bb3:=HB2.out.trans (hb3.mono HB2.out.size);have HB3:=hide bb3;clear hb3 bb3;simp only [hi]))
     go_roundw
     case rel=>exact ⟨o+1,by omega,by omega,by go_num,HE.out.trans HN.out,HB3.out⟩
     case measure=>simp [intOf];omega
    ·have HN:=hide (Pr.opFrom_yes (ts:=ts) (sz:=sz) (s:=s) hlt hr hi)
     go_wp2_with (first
      | (go_at_call 73;refine (HR.out _).mono ?_;rintro e w1 ⟨rfl,rfl⟩;rw [hri])
      | (go_at_call 74;refine (HM.out _).mono ?_;rintro e w2 ⟨rfl,hb2⟩;have bb2:=HB.out.trans (hb2.mono HB.out.size);have HB2:=hide bb2;clear hb2 bb2)
      | (go_at_call 88;refine (is_any (HH.out.below HB2.out) _).mono ?_;rintro e w3 ⟨rfl,hb3⟩;have bb3:=HB2.out.trans (hb3.mono HB2.out.size);have HB3:=hide bb3;clear hb3 bb3;simp only [hi]))
     go_ret
     exact ⟨by rw [HE.out,HN.out];rfl,HB3.out⟩
   ·have hri:¬ ((Pr.rank o:Nat):Int)=r:=by omega
    have HN:=hide (Pr.opFrom_no (ts:=ts) (sz:=sz) (s:=s) (r:=r) hlt (fun e=>absurd e hr))
    go_wp2_with (go_at_call 73;refine (HR.out _).mono ?_;rintro e w1 ⟨rfl,rfl⟩)
    go_roundw
    case rel=>exact ⟨o+1,by omega,by omega,by go_num,HE.out.trans HN.out,HB.out⟩
    case measure=>simp [intOf];omega
  ·have hlt1:¬ (o:Int)≤14:=by omega
   have ho:o=15:=by omega
   have HN:Hid (Pr.opFrom ts sz s r (15 - o) o=0):=hide (by rw [ho];rfl)
   go_wp2
   go_ret
   exact ⟨by rw [HE.out,HN.out];rfl,HB.out⟩
def Pr.left (b:Nat) (ts:List Sc.T) (w:World):Nat:=ts.length - (intOf ((w.cell? ⟨b,2,none⟩).getD (.int .i64 0))).toNat
theorem DK.left {b tg tc:Nat} {ts:List Sc.T} {sz:Nat} {v:Value} {s:Pr.Dk} {w:World} (h:DK b tg tc ts sz v s w):Pr.left b ts w=ts.length - s.p:=by
 unfold Pr.left;rw [h.c2];simp [intOf]
abbrev Pr.SOi (b tg tc:Nat) (ts:List Sc.T) (sz:Nat) (i:Int) (r:Nat) (s:Pr.Dk):Prop:=Pr.Says b tg tc ts sz 89 [.int .i64 i] Pr.un (.ops r) s
set_option maxRecDepth 100000 in
set_option maxHeartbeats 2000000 in
theorem ops_bad {b tg tc:Nat} {ts:List Sc.T} {sz:Nat} {s:Pr.Dk} (r:Nat) (hbad:s.bad=true):Pr.SOi b tg tc ts sz r r s:=by
 intro v0 w0 hd0 hN
 have HD0:=hide hd0
 have c3:=hd0.c3
 rw [hbad] at c3
 clear hd0
 go_enter Tryz.func89,Tryz.ntmps89
 go_wp2
 (first | go_end0 | refine bodyPost_ret (results_none rfl _ _ _) rfl ?_)
 exact ⟨(s,0),rfl,Pr.Cv.ops_bad hbad,v0,HD0.out,.refl _ _ _⟩
set_option maxRecDepth 100000 in
set_option maxHeartbeats 2000000 in
theorem ops_at3 {b tg tc:Nat} {ts:List Sc.T} {sz:Nat} {s:Pr.Dk} (hbad:s.bad=false) (ihE:∀ q:Pr.Dk,s.p < q.p→q.p≤ts.length→Pr.SOi b tg tc ts sz 3 3 q) (ihN:Pr.SOi b tg tc ts sz 4 4 s):Pr.SOi b tg tc ts sz 3 3 s:=by
 intro v0 w0 hd0 hN
 have h0:=hd0.le
 have HD0:=hide hd0
 have HG0:=hide (Pr.Gr.refl b v0 w0)
 have HS0:=hide (Pr.Stp.refl h0)
 have c3:=hd0.c3
 rw [hbad] at c3
 clear hd0
 cases hi:Pr.is ts sz s Pr.sNot
 ·go_enter Tryz.func89,Tryz.ntmps89
  have Q1:=hide (takeN HD0.out Pr.sNot #[110,111,116] rfl hi)
  go_wp2_with fail
  refine Q1.out.mono ?_
  rintro e1 w1 ⟨rfl,v1,hd1,hg1⟩
  have HD1:=hide hd1
  have HG1:=hide (HG0.out.trans hg1)
  have HS1:=hide (HS0.out)
  clear hd1 hg1 Q1
  have Q2:=hide (ihN _ _ HD1.out (HS1.out.phi (by first | omega | (simp only [Pr.extra];omega)) h0 hN))
  go_wp2_with fail
  refine Q2.out.mono ?_
  rintro e2 w2 ⟨r2,rfl,hc2,v2,hd2,hg2⟩
  have HC2:=hide hc2
  have HD2:=hide hd2
  have HG2:=hide (HG1.out.trans hg2)
  have HS2:=hide (HS1.out.trans (hc2.stp HS1.out.le))
  clear hc2 hd2 hg2 Q2
  go_wp2
  (first | go_end0 | refine bodyPost_ret (results_none rfl _ _ _) rfl ?_)
  exact ⟨_,rfl,Pr.Cv.ops_3 hbad hi HC2.out,v2,HD2.out,HG2.out⟩
 ·go_enter Tryz.func89,Tryz.ntmps89
  have Q1:=hide (takeY HD0.out Pr.sNot #[110,111,116] rfl hi)
  go_wp2_with fail
  refine Q1.out.mono ?_
  rintro e1 w1 ⟨rfl,v1,hd1,hg1⟩
  have HD1:=hide hd1
  have HG1:=hide (HG0.out.trans hg1)
  have HS1:=hide (HS0.out.adv hi)
  clear hd1 hg1 Q1
  have HA1:=hide (Pr.Stp.refl HS1.out.le)
  have Q2:=hide (ihE _ HA1.out.ge HS1.out.le _ _ HD1.out (HS1.out.phi (by first | omega | (simp only [Pr.extra];omega)) h0 hN))
  go_wp2_with fail
  refine Q2.out.mono ?_
  rintro e2 w2 ⟨r2,rfl,hc2,v2,hd2,hg2⟩
  have HC2:=hide hc2
  have HD2:=hide hd2
  have HG2:=hide (HG1.out.trans hg2)
  have HS2:=hide (HS1.out.trans (hc2.stp HS1.out.le))
  have HA2:=hide (HA1.out.trans (hc2.stp HA1.out.le))
  clear hc2 hd2 hg2 Q2
  have Q3:=hide (put_any HD2.out (HS2.out.len (by first | omega | (simp only [Pr.extra];omega)) h0 hN) 6 1 0 [] 1)
  go_wp2_with fail
  refine Q3.out.mono ?_
  rintro e3 w3 ⟨rfl,v3,hd3,hg3⟩
  have HD3:=hide hd3
  have HG3:=hide (HG2.out.trans hg3)
  have HS3:=hide (HS2.out.put 6 1 0 [] 1)
  have HA3:=hide (HA2.out.put 6 1 0 [] 1)
  clear hd3 hg3 Q3
  go_wp2
  (first | go_end0 | refine bodyPost_ret (results_none rfl _ _ _) rfl ?_)
  exact ⟨(_,0),rfl,Pr.Cv.ops_not hbad hi HC2.out,v3,HD3.out,HG3.out⟩
set_option maxRecDepth 100000 in
set_option maxHeartbeats 2000000 in
theorem ops_at7 {b tg tc:Nat} {ts:List Sc.T} {sz:Nat} {s:Pr.Dk} (hbad:s.bad=false) (ihE:∀ q:Pr.Dk,s.p < q.p→q.p≤ts.length→Pr.SOi b tg tc ts sz 7 7 q) (ihN:Pr.ST b tg tc ts sz s):Pr.SOi b tg tc ts sz 7 7 s:=by
 intro v0 w0 hd0 hN
 have h0:=hd0.le
 have HD0:=hide hd0
 have HG0:=hide (Pr.Gr.refl b v0 w0)
 have HS0:=hide (Pr.Stp.refl h0)
 have c3:=hd0.c3
 rw [hbad] at c3
 clear hd0
 cases hi:Pr.is ts sz s [45]
 ·go_enter Tryz.func89,Tryz.ntmps89
  have Q1:=hide (takeN HD0.out [45] #[45] rfl hi)
  go_wp2_with fail
  refine Q1.out.mono ?_
  rintro e1 w1 ⟨rfl,v1,hd1,hg1⟩
  have HD1:=hide hd1
  have HG1:=hide (HG0.out.trans hg1)
  have HS1:=hide (HS0.out)
  clear hd1 hg1 Q1
  have Q2:=hide (ihN _ _ HD1.out (HS1.out.phi (by first | omega | (simp only [Pr.extra];omega)) h0 hN))
  go_wp2_with fail
  refine Q2.out.mono ?_
  rintro e2 w2 ⟨r2,rfl,hc2,v2,hd2,hg2⟩
  have HC2:=hide hc2
  have HD2:=hide hd2
  have HG2:=hide (HG1.out.trans hg2)
  have HS2:=hide (HS1.out.trans (hc2.stp HS1.out.le))
  clear hc2 hd2 hg2 Q2
  go_wp2
  (first | go_end0 | refine bodyPost_ret (results_none rfl _ _ _) rfl ?_)
  exact ⟨_,rfl,Pr.Cv.ops_7 hbad rfl hi HC2.out,v2,HD2.out,HG2.out⟩
 ·go_enter Tryz.func89,Tryz.ntmps89
  have Q1:=hide (takeY HD0.out [45] #[45] rfl hi)
  go_wp2_with fail
  refine Q1.out.mono ?_
  rintro e1 w1 ⟨rfl,v1,hd1,hg1⟩
  have HD1:=hide hd1
  have HG1:=hide (HG0.out.trans hg1)
  have HS1:=hide (HS0.out.adv hi)
  clear hd1 hg1 Q1
  have HA1:=hide (Pr.Stp.refl HS1.out.le)
  have Q2:=hide (ihE _ HA1.out.ge HS1.out.le _ _ HD1.out (HS1.out.phi (by first | omega | (simp only [Pr.extra];omega)) h0 hN))
  go_wp2_with fail
  refine Q2.out.mono ?_
  rintro e2 w2 ⟨r2,rfl,hc2,v2,hd2,hg2⟩
  have HC2:=hide hc2
  have HD2:=hide hd2
  have HG2:=hide (HG1.out.trans hg2)
  have HS2:=hide (HS1.out.trans (hc2.stp HS1.out.le))
  have HA2:=hide (HA1.out.trans (hc2.stp HA1.out.le))
  clear hc2 hd2 hg2 Q2
  have Q3:=hide (put_any HD2.out (HS2.out.len (by first | omega | (simp only [Pr.extra];omega)) h0 hN) 6 2 0 [] 1)
  go_wp2_with fail
  refine Q3.out.mono ?_
  rintro e3 w3 ⟨rfl,v3,hd3,hg3⟩
  have HD3:=hide hd3
  have HG3:=hide (HG2.out.trans hg3)
  have HS3:=hide (HS2.out.put 6 2 0 [] 1)
  have HA3:=hide (HA2.out.put 6 2 0 [] 1)
  clear hd3 hg3 Q3
  go_wp2
  (first | go_end0 | refine bodyPost_ret (results_none rfl _ _ _) rfl ?_)
  exact ⟨(_,0),rfl,Pr.Cv.ops_neg hbad rfl hi HC2.out,v3,HD3.out,HG3.out⟩
set_option maxRecDepth 100000 in
set_option maxHeartbeats 4000000 in
theorem ops_at {b tg tc:Nat} {ts:List Sc.T} {sz:Nat} {s:Pr.Dk} (r:Nat) (hr:r≤6) (hr3:r≠3) (hbad:s.bad=false) (ihF:∀ q:Pr.Dk,s.p < q.p→q.p≤ts.length→Pr.SOi b tg tc ts sz ((r:Int)+1) (r+1) q) (ihN:Pr.SOi b tg tc ts sz ((r:Int)+1) (r+1) s):Pr.SOi b tg tc ts sz r r s:=by
 intro v0 w0 hd0 hN
 have h0:=hd0.le
 have HD0:=hide hd0
 have HG0:=hide (Pr.Gr.refl b v0 w0)
 have HS0:=hide (Pr.Stp.refl h0)
 have c3:=hd0.c3
 rw [hbad] at c3
 clear hd0
 have hm:=HD0.out.most
 have e3:¬ (r:Int)=3:=by omega
 have e7:¬ (r:Int)=7:=by omega
 have b3:(r == 3)=false:=by simp [hr3]
 have b7:(r == 7)=false:=by simp;omega
 go_enter Tryz.func89,Tryz.ntmps89
 have Q1:=hide (ihN _ _ HD0.out (HS0.out.phi (by first | omega | (simp only [Pr.extra];omega)) h0 hN))
 go_wp2_with fail
 refine Q1.out.mono ?_
 rintro e1 w1 ⟨r1,rfl,hc1,v1,hd1,hg1⟩
 have HC1:=hide hc1
 have HD1:=hide hd1
 have HG1:=hide (HG0.out.trans hg1)
 have HS1:=hide (HS0.out.trans (hc1.stp HS0.out.le))
 clear hc1 hd1 hg1 Q1
 have HI:=hide (show ∀ r2,Pr.Cv ts sz (.opsL r) r1.1 r2→Pr.Cv ts sz (.ops r) s r2 from fun r2 h=>Pr.Cv.ops_r hbad b3 b7 HC1.out h)
 clear HC1
 go_wp2_with fail
 go_loopw [4] (fun _ wr=>∃ (q:Pr.Dk) (vq:Value),DK b tg tc ts sz vq q wr∧Pr.Gr b v0 vq w0 wr∧Pr.Stp ts s q 0∧∀ r2,Pr.Cv ts sz (.opsL r) q r2→Pr.Cv ts sz (.ops r) s r2) (fun _ wr=>Pr.left b ts wr)
 case atStart=>exact ⟨r1.1,v1,HD1.out,HG1.out,HS1.out.mono (by first | omega | (simp only [Pr.extra];omega)),HI.out⟩
 case round =>
  obtain ⟨q,v10,hd10,hg10,hs10,hi10⟩:=hrel
  have HD10:=hide hd10
  have HG10:=hide hg10
  have HS10:=hide hs10
  have HI10:=hide hi10
  have HQ:=hide (op_any hd10 r)
  clear hd10 hg10 hs10 hi10 HI HD1 HG1 HS1
  cases hz:(Pr.op ts sz q r == 0)
  ·have hlt:=Pr.op_lt hz
   have hzi:¬ ((Pr.op ts sz q r:Nat):Int)=0:=by simp at hz;omega
   by_cases h4:r=4
   ·subst h4
    go_wp2_with fail
    refine HQ.out.mono ?_
    rintro e w2 ⟨rfl,hb2⟩
    have hd2:=HD10.out.below hb2
    have c2:=hd2.c2
    have f2:=hd2.fr 2
    have hdA:=hd2.adv hlt
    have HD11:=hide hdA
    have HG11:=hide ((HG10.out.trans (.below hb2)).trans (.set v10 _ b 2 (.int .i64 ((q.p:Int)+1))))
    have HS11:=hide (HS10.out.advL hlt)
    clear hd2 hdA hb2
    have Q12:=hide (ihF _ (Nat.lt_succ_of_le HS10.out.ge) HS11.out.le _ _ HD11.out (HS11.out.phi (by first | omega | (simp only [Pr.extra];omega)) h0 hN))
    go_wp2_with fail
    refine Q12.out.mono ?_
    rintro e12 w12 ⟨r12,rfl,hc12,v12,hd12,hg12⟩
    have HC12:=hide hc12
    have HD12:=hide hd12
    have HG12:=hide (HG11.out.trans hg12)
    have HS12:=hide (HS11.out.trans (hc12.stp HS11.out.le))
    clear hc12 hd12 hg12 Q12
    have Q13:=hide (put_any HD12.out (HS12.out.len (by first | omega | (simp only [Pr.extra];omega)) h0 hN) 7 (Pr.op ts sz q 4:Nat) 0 [] 2)
    go_wp2_with fail
    refine Q13.out.mono ?_
    rintro e13 w13 ⟨rfl,v13,hd13,hg13⟩
    have HD13:=hide hd13
    have HG13:=hide (HG12.out.trans hg13)
    have HS13:=hide (HS12.out.put 7 (Pr.op ts sz q 4:Nat) 0 [] 2)
    clear hd13 hg13 Q13
    go_wp2
    (first | go_end0 | refine bodyPost_ret (results_none rfl _ _ _) rfl ?_)
    exact ⟨(_,0),rfl,HI10.out _ (Pr.Cv.opsL_4 hz HC12.out),v13,HD13.out,HG13.out⟩
   ·have e4:¬ (r:Int)=4:=by omega
    have b4:(r == 4)=false:=by simp [h4]
    go_wp2_with fail
    refine HQ.out.mono ?_
    rintro e w2 ⟨rfl,hb2⟩
    have hd2:=HD10.out.below hb2
    have c2:=hd2.c2
    have f2:=hd2.fr 2
    have hdA:=hd2.adv hlt
    have HD11:=hide hdA
    have HG11:=hide ((HG10.out.trans (.below hb2)).trans (.set v10 _ b 2 (.int .i64 ((q.p:Int)+1))))
    have HS11:=hide (HS10.out.advL hlt)
    clear hd2 hdA hb2
    have HA11:=hide (Pr.Stp.refl HS11.out.le)
    have Q12:=hide (ihF _ (Nat.lt_succ_of_le HS10.out.ge) HS11.out.le _ _ HD11.out (HS11.out.phi (by first | omega | (simp only [Pr.extra];omega)) h0 hN))
    go_wp2_with fail
    refine Q12.out.mono ?_
    rintro e12 w12 ⟨r12,rfl,hc12,v12,hd12,hg12⟩
    have HC12:=hide hc12
    have HD12:=hide hd12
    have HG12:=hide (HG11.out.trans hg12)
    have HS12:=hide (HS11.out.trans (hc12.stp HS11.out.le))
    have HA12:=hide (HA11.out.trans (hc12.stp HA11.out.le))
    clear hc12 hd12 hg12 Q12
    have Q13:=hide (put_any HD12.out (HS12.out.len (by first | omega | (simp only [Pr.extra];omega)) h0 hN) 7 (Pr.op ts sz q r:Nat) 0 [] 2)
    go_wp2_with fail
    refine Q13.out.mono ?_
    rintro e13 w13 ⟨rfl,v13,hd13,hg13⟩
    have HD13:=hide hd13
    have HG13:=hide (HG12.out.trans hg13)
    have HS13:=hide (HS12.out.put 7 (Pr.op ts sz q r:Nat) 0 [] 2)
    have HA13:=hide (HA12.out.put 7 (Pr.op ts sz q r:Nat) 0 [] 2)
    clear hd13 hg13 Q13
    have HM:=hide (show Pr.left b ts w13 < Pr.left b ts wr from by rw [HD13.out.left,HD10.out.left];have:=HA13.out.ge;rw [Pr.adv_p] at this;omega)
    go_wp2
    go_roundw
    case rel=>exact ⟨_,v13,HD13.out,HG13.out,HS13.out.mono (by first | omega | (simp only [Pr.extra];omega)),fun r2 h=>HI10.out _ (Pr.Cv.opsL_go hz b4 HC12.out h)⟩
    case measure=>exact HM.out
  ·have hzi:((Pr.op ts sz q r:Nat):Int)=0:=by simp at hz;omega
   rw [hzi] at HQ
   go_wp2_with fail
   refine HQ.out.mono ?_
   rintro e w2 ⟨rfl,hb2⟩
   have HB2:=hide hb2
   clear hb2
   go_wp2
   (first | go_end0 | refine bodyPost_ret (results_none rfl _ _ _) rfl ?_)
   exact ⟨(q,0),rfl,HI10.out _ (Pr.Cv.opsL_end hz),v10,HD10.out.below HB2.out,HG10.out.trans (.below HB2.out)⟩
end Go.Proofs.YtbckhbeebngjfaaGreatDoor
