/- Px. -/
import Derived.Test.YtfjoecbkagedbaaGreatDoorY18
namespace Go.Proofs.YtfjoecbkagedbaaGreatDoor
open Go.RowKit
theorem ent_field (a : Array Value) (w : World) : Sem.run Tryz.prog (callFunc 128 a) w = .ok (.enter 128 a) w := by
  simp only [callFunc, Sem.run_bind, run_program, Result.andThen_ok, Tryz.func128, show (Tryz.f128.name == "runtime.NumGoroutine") = false by kernel_rfl, show Tryz.f128.body.isNone = false by kernel_rfl]; rfl
set_option maxRecDepth 100000 in
set_option maxHeartbeats 2000000 in
theorem iwhole_any {b tc sz m : Nat} {tp : Option Addr} {ts : List Sc.T} {s : Pr.Dk} (hbad : s.bad = false) (hm0 : m ≤ s.p) (ihE : ∀ q : Pr.Dk, m < q.p → q.p ≤ ts.length → q.bad = false → Ip.DE b tp tc ts sz q) :
    Ip.Does b tp tc ts sz 121 #[.pointer (some ⟨b, 0, none⟩)] .single s (s) := by
  intro w0 hd0
  have hlt := hd0.lt
  have hmost := hd0.most
  have HD0 := hide hd0
  have HM0 := hide (Ip.Mv.refl b w0)
  have HG0 := hide (show m ≤ (s).p from hm0)
  have hmf : ∀ (fn : Fn) (first cap : Array Value) (w : World), (Instr.makeFunc fn first cap).run Tryz.prog w = .ok (.func fn first cap) w := fun _ _ _ _ => rfl
  clear hd0
  have hf0 := tokField0 (Pr.tok ts sz s).kind (Pr.tok ts sz s).n (Pr.tok ts sz s).place ⟨(Pr.tok ts sz s).text.toArray⟩
  have QN := hide (inext_any (s := s) HD0.out)
  have hle0 := HD0.out.le
  cases hk1 : ((Pr.tok ts sz s).kind == 1)
  case true =>
    have kb1 : (((Pr.tok ts sz s).kind : Int) == 1) = true := by simp at hk1; rw [hk1]; rfl
    go_enter Tryz.func121, Tryz.ntmps121
    go_wp2_with fail
    refine QN.out.mono ?_
    rintro e w1 ⟨rfl, hb⟩
    have HD1 := hide (HD0.out.below hb)
    have HM1 := hide (HM0.out.more hb)
    have HG1 := hide HG0.out
    clear hb QN
    unfold Pr.tokV
    have Q := hide (inameY (s := s) HD1.out (by simpa using hk1))
    go_wp2_with fail
    refine Q.out.mono ?_
    rintro e w2 ⟨v, rfl, hd, hm, hp⟩
    have HD2 := hide hd
    have HM2 := hide (HM1.out.t hm)
    have HPm := hide (hp.low HM1.out.size)
    clear hd hm hp Q
    go_wp2
    go_ret
    exact .inl ⟨(Pr.put (Pr.adv s) 5 0 0 (Pr.tok ts sz s).text 0, 0), _, _, rfl, .one_name hbad hk1, hbad, by simp [Pr.put], HD2.out, HM2.out, HPm.out⟩
  have kb1 : (((Pr.tok ts sz s).kind : Int) == 1) = false := by simp at hk1 ⊢; omega
  cases hk3 : ((Pr.tok ts sz s).kind == 3)
  case true =>
    have kb3 : (((Pr.tok ts sz s).kind : Int) == 3) = true := by simp at hk3; rw [hk3]; rfl
    go_enter Tryz.func121, Tryz.ntmps121
    go_wp2_with fail
    refine QN.out.mono ?_
    rintro e w1 ⟨rfl, hb⟩
    have HD1 := hide (HD0.out.below hb)
    have HM1 := hide (HM0.out.more hb)
    have HG1 := hide HG0.out
    clear hb QN
    unfold Pr.tokV
    have Q := hide (itakeY (s := s) HD1.out 3 (by decide) (by simpa using hk3))
    go_wp2_with fail
    refine Q.out.mono ?_
    rintro e w2 ⟨rfl, hd, hm⟩
    have HD2 := hide (show IP b tp tc ts sz (Pr.adv s).p w2 from hd)
    have HM2 := hide (HM1.out.t hm)
    have HG2 := hide (show m ≤ (Pr.adv s).p from Nat.le_succ_of_le HG1.out)
    clear hd hm Q
    have hf2 := tokField2 (Pr.tok ts sz s).kind (Pr.tok ts sz s).n (Pr.tok ts sz s).place ⟨(Pr.tok ts sz s).text.toArray⟩
    unfold Pr.tokV
    have Q := hide (newPart_any 3 0 ((Pr.tok ts sz s).n : Nat) 0 ⟨#[]⟩ none 0 0 w2)
    go_wp2_with fail
    refine Q.out.mono ?_
    rintro e w3 ⟨rfl, hb⟩
    have HPm := hide ((Ip.Row.nil w0.heap.size w3).made (x := ⟨3, 0, ((Pr.tok ts sz s).n : Nat), ⟨#[]⟩, 0⟩) rfl)
    have hbb := hb
    have HD3 := hide (HD2.out.below hbb)
    have HM3 := hide (HM2.out.more hbb)
    clear hb hbb Q
    go_wp2
    go_ret
    exact .inl ⟨(Pr.put (Pr.adv s) 3 0 (Pr.tok ts sz s).n [] 0, 0), _, _, rfl, .one_int hbad hk3, hbad, by simp [Pr.put], HD3.out, HM3.out, HPm.out⟩
  have kb3 : (((Pr.tok ts sz s).kind : Int) == 3) = false := by simp at hk3 ⊢; omega
  cases hk4 : ((Pr.tok ts sz s).kind == 4)
  case true =>
    have kb4 : (((Pr.tok ts sz s).kind : Int) == 4) = true := by simp at hk4; rw [hk4]; rfl
    go_enter Tryz.func121, Tryz.ntmps121
    go_wp2_with fail
    refine QN.out.mono ?_
    rintro e w1 ⟨rfl, hb⟩
    have HD1 := hide (HD0.out.below hb)
    have HM1 := hide (HM0.out.more hb)
    have HG1 := hide HG0.out
    clear hb QN
    unfold Pr.tokV
    have Q := hide (itakeY (s := s) HD1.out 4 (by decide) (by simpa using hk4))
    go_wp2_with fail
    refine Q.out.mono ?_
    rintro e w2 ⟨rfl, hd, hm⟩
    have HD2 := hide (show IP b tp tc ts sz (Pr.adv s).p w2 from hd)
    have HM2 := hide (HM1.out.t hm)
    have HG2 := hide (show m ≤ (Pr.adv s).p from Nat.le_succ_of_le HG1.out)
    clear hd hm Q
    have hf1 := tokField1 (Pr.tok ts sz s).kind (Pr.tok ts sz s).n (Pr.tok ts sz s).place ⟨(Pr.tok ts sz s).text.toArray⟩
    unfold Pr.tokV
    have Q := hide (newPart_any 4 0 0 0 ⟨(Pr.tok ts sz s).text.toArray⟩ none 0 0 w2)
    go_wp2_with fail
    refine Q.out.mono ?_
    rintro e w3 ⟨rfl, hb⟩
    have HPm := hide ((Ip.Row.nil w0.heap.size w3).made (x := ⟨4, 0, 0, ⟨(Pr.tok ts sz s).text.toArray⟩, 0⟩) rfl)
    have hbb := hb
    have HD3 := hide (HD2.out.below hbb)
    have HM3 := hide (HM2.out.more hbb)
    clear hb hbb Q
    go_wp2
    go_ret
    exact .inl ⟨(Pr.put (Pr.adv s) 4 0 0 (Pr.tok ts sz s).text 0, 0), _, _, rfl, .one_text hbad hk4, hbad, by simp [Pr.put], HD3.out, HM3.out, HPm.out⟩
  have kb4 : (((Pr.tok ts sz s).kind : Int) == 4) = false := by simp at hk4 ⊢; omega
  cases hNone : Pr.is ts sz s Pr.sNone
  case true =>
    go_enter Tryz.func121, Tryz.ntmps121
    go_wp2_with fail
    refine QN.out.mono ?_
    rintro e w1 ⟨rfl, hb⟩
    have HD1 := hide (HD0.out.below hb)
    have HM1 := hide (HM0.out.more hb)
    have HG1 := hide HG0.out
    clear hb QN
    unfold Pr.tokV
    have Q := hide (skipY (s := s) HD1.out Pr.sNone #[110, 111, 110, 101] rfl hNone)
    go_wp2_with fail
    refine Q.out.mono ?_
    rintro e w2 ⟨rfl, hd, hm⟩
    have HD2 := hide (show IP b tp tc ts sz (Pr.adv (s)).p w2 from hd)
    have HM2 := hide (HM1.out.t hm)
    have HG2 := hide (show m ≤ (Pr.adv (s)).p from Nat.le_succ_of_le HG1.out)
    clear hd hm Q
    have Q := hide (newPart_any 1 0 0 0 ⟨#[]⟩ none 0 0 w2)
    go_wp2_with fail
    refine Q.out.mono ?_
    rintro e w3 ⟨rfl, hb⟩
    have HPm := hide ((Ip.Row.nil w0.heap.size w3).made (x := ⟨1, 0, 0, ⟨#[]⟩, 0⟩) rfl)
    have hbb := hb
    have HD3 := hide (HD2.out.below hbb)
    have HM3 := hide (HM2.out.more hbb)
    clear hb hbb Q
    go_wp2
    go_ret
    exact .inl ⟨(Pr.put (Pr.adv s) 1 0 0 [] 0, 0), _, _, rfl, .one_none hNone, hbad, by simp [Pr.put], HD3.out, HM3.out, HPm.out⟩
  cases hFalse : Pr.is ts sz s Pr.sFalse
  case true =>
    go_enter Tryz.func121, Tryz.ntmps121
    go_wp2_with fail
    refine QN.out.mono ?_
    rintro e w1 ⟨rfl, hb⟩
    have HD1 := hide (HD0.out.below hb)
    have HM1 := hide (HM0.out.more hb)
    have HG1 := hide HG0.out
    clear hb QN
    unfold Pr.tokV
    have Q := hide (skipN (s := s) HD1.out hbad Pr.sNone #[110, 111, 110, 101] rfl hNone)
    go_wp2_with fail
    refine Q.out.mono ?_
    rintro e w2 ⟨rfl, hd, hb⟩
    have hm : Ip.Mv b w1 w2 := .below hb
    clear hb
    have HD2 := hide (show IP b tp tc ts sz (s).p w2 from hd)
    have HM2 := hide (HM1.out.t hm)
    have HG2 := hide (show m ≤ (s).p from HG1.out)
    clear hd hm Q
    have Q := hide (skipY (s := s) HD2.out Pr.sFalse #[102, 97, 108, 115, 101] rfl hFalse)
    go_wp2_with fail
    refine Q.out.mono ?_
    rintro e w3 ⟨rfl, hd, hm⟩
    have HD3 := hide (show IP b tp tc ts sz (Pr.adv (s)).p w3 from hd)
    have HM3 := hide (HM2.out.t hm)
    have HG3 := hide (show m ≤ (Pr.adv (s)).p from Nat.le_succ_of_le HG2.out)
    clear hd hm Q
    have Q := hide (newPart_any 2 0 0 0 ⟨#[]⟩ none 0 0 w3)
    go_wp2_with fail
    refine Q.out.mono ?_
    rintro e w4 ⟨rfl, hb⟩
    have HPm := hide ((Ip.Row.nil w0.heap.size w4).made (x := ⟨2, 0, 0, ⟨#[]⟩, 0⟩) rfl)
    have hbb := hb
    have HD4 := hide (HD3.out.below hbb)
    have HM4 := hide (HM3.out.more hbb)
    clear hb hbb Q
    go_wp2
    go_ret
    exact .inl ⟨(Pr.put (Pr.adv s) 2 0 0 [] 0, 0), _, _, rfl, .one_false hFalse, hbad, by simp [Pr.put], HD4.out, HM4.out, HPm.out⟩
  cases hTrue : Pr.is ts sz s Pr.sTrue
  case true =>
    go_enter Tryz.func121, Tryz.ntmps121
    go_wp2_with fail
    refine QN.out.mono ?_
    rintro e w1 ⟨rfl, hb⟩
    have HD1 := hide (HD0.out.below hb)
    have HM1 := hide (HM0.out.more hb)
    have HG1 := hide HG0.out
    clear hb QN
    unfold Pr.tokV
    have Q := hide (skipN (s := s) HD1.out hbad Pr.sNone #[110, 111, 110, 101] rfl hNone)
    go_wp2_with fail
    refine Q.out.mono ?_
    rintro e w2 ⟨rfl, hd, hb⟩
    have hm : Ip.Mv b w1 w2 := .below hb
    clear hb
    have HD2 := hide (show IP b tp tc ts sz (s).p w2 from hd)
    have HM2 := hide (HM1.out.t hm)
    have HG2 := hide (show m ≤ (s).p from HG1.out)
    clear hd hm Q
    have Q := hide (skipN (s := s) HD2.out hbad Pr.sFalse #[102, 97, 108, 115, 101] rfl hFalse)
    go_wp2_with fail
    refine Q.out.mono ?_
    rintro e w3 ⟨rfl, hd, hb⟩
    have hm : Ip.Mv b w2 w3 := .below hb
    clear hb
    have HD3 := hide (show IP b tp tc ts sz (s).p w3 from hd)
    have HM3 := hide (HM2.out.t hm)
    have HG3 := hide (show m ≤ (s).p from HG2.out)
    clear hd hm Q
    have Q := hide (skipY (s := s) HD3.out Pr.sTrue #[116, 114, 117, 101] rfl hTrue)
    go_wp2_with fail
    refine Q.out.mono ?_
    rintro e w4 ⟨rfl, hd, hm⟩
    have HD4 := hide (show IP b tp tc ts sz (Pr.adv (s)).p w4 from hd)
    have HM4 := hide (HM3.out.t hm)
    have HG4 := hide (show m ≤ (Pr.adv (s)).p from Nat.le_succ_of_le HG3.out)
    clear hd hm Q
    have Q := hide (newPart_any 2 0 1 0 ⟨#[]⟩ none 0 0 w4)
    go_wp2_with fail
    refine Q.out.mono ?_
    rintro e w5 ⟨rfl, hb⟩
    have HPm := hide ((Ip.Row.nil w0.heap.size w5).made (x := ⟨2, 0, 1, ⟨#[]⟩, 0⟩) rfl)
    have hbb := hb
    have HD5 := hide (HD4.out.below hbb)
    have HM5 := hide (HM4.out.more hbb)
    clear hb hbb Q
    go_wp2
    go_ret
    exact .inl ⟨(Pr.put (Pr.adv s) 2 0 1 [] 0, 0), _, _, rfl, .one_true hTrue, hbad, by simp [Pr.put], HD5.out, HM5.out, HPm.out⟩
  cases hRound : Pr.is ts sz s [40]
  case true =>
    go_enter Tryz.func121, Tryz.ntmps121
    go_wp2_with fail
    refine QN.out.mono ?_
    rintro e w1 ⟨rfl, hb⟩
    have HD1 := hide (HD0.out.below hb)
    have HM1 := hide (HM0.out.more hb)
    have HG1 := hide HG0.out
    clear hb QN
    unfold Pr.tokV
    have Q := hide (skipN (s := s) HD1.out hbad Pr.sNone #[110, 111, 110, 101] rfl hNone)
    go_wp2_with fail
    refine Q.out.mono ?_
    rintro e w2 ⟨rfl, hd, hb⟩
    have hm : Ip.Mv b w1 w2 := .below hb
    clear hb
    have HD2 := hide (show IP b tp tc ts sz (s).p w2 from hd)
    have HM2 := hide (HM1.out.t hm)
    have HG2 := hide (show m ≤ (s).p from HG1.out)
    clear hd hm Q
    have Q := hide (skipN (s := s) HD2.out hbad Pr.sFalse #[102, 97, 108, 115, 101] rfl hFalse)
    go_wp2_with fail
    refine Q.out.mono ?_
    rintro e w3 ⟨rfl, hd, hb⟩
    have hm : Ip.Mv b w2 w3 := .below hb
    clear hb
    have HD3 := hide (show IP b tp tc ts sz (s).p w3 from hd)
    have HM3 := hide (HM2.out.t hm)
    have HG3 := hide (show m ≤ (s).p from HG2.out)
    clear hd hm Q
    have Q := hide (skipN (s := s) HD3.out hbad Pr.sTrue #[116, 114, 117, 101] rfl hTrue)
    go_wp2_with fail
    refine Q.out.mono ?_
    rintro e w4 ⟨rfl, hd, hb⟩
    have hm : Ip.Mv b w3 w4 := .below hb
    clear hb
    have HD4 := hide (show IP b tp tc ts sz (s).p w4 from hd)
    have HM4 := hide (HM3.out.t hm)
    have HG4 := hide (show m ≤ (s).p from HG3.out)
    clear hd hm Q
    have Q := hide (skipY (s := s) HD4.out [40] #[40] rfl hRound)
    go_wp2_with fail
    refine Q.out.mono ?_
    rintro e w5 ⟨rfl, hd, hm⟩
    have HD5 := hide (show IP b tp tc ts sz (Pr.adv (s)).p w5 from hd)
    have HM5 := hide (HM4.out.t hm)
    have HG5 := hide (show m ≤ (Pr.adv (s)).p from Nat.le_succ_of_le HG4.out)
    clear hd hm Q
    have hbad2 : (Pr.adv s).bad = false := hbad
    have Q := hide (ihE (Pr.adv s) (Nat.lt_succ_of_le HG1.out) HD5.out.le hbad2 _ HD5.out)
    go_wp2_with fail
    refine Q.out.mono ?_
    rintro e w6 (⟨r1, v1, l1, rfl, hc, hb1, ho, hd, hm, hp⟩ | ⟨q, rfl, hq, hm⟩)
    rotate_left
    · exact ⟨rfl, .inr ⟨_, rfl, .one_round1 hRound hq, HM5.out.t hm⟩⟩
    obtain ⟨t1, u1, rfl⟩ := hp.iface
    have HC1 := hide hc
    have HO1 := hide ho
    have HPn := hide (hp.low HM5.out.size)
    clear ho hp
    have HD6 := hide (show IP b tp tc ts sz (r1.1).p w6 from hd)
    have HM6 := hide (HM5.out.t hm)
    have HG6 := hide (show m ≤ (r1.1).p from Nat.le_trans HG5.out (hc.stp HD5.out.le).ge)
    clear hd hm Q
    clear hc
    have HP1_6 := hide HPn.out
    clear HPn
    cases hw7 : Pr.is ts sz (r1.1) [41]
    case false =>
      have hB := Pr.Bd.need_of (ts := ts) (sz := sz) (s := r1.1) hb1 hw7
      have HE := hide (show Pr.Ends ts sz .single s (Pr.tok ts sz (r1.1)).place from .one_round2 hRound HC1.out hB)
      have Q := hide (wantN (s := r1.1) HD6.out hb1 [41] #[41] rfl hw7)
      clear hB
      go_wp2_with fail
      refine Q.out.mono ?_
      rintro e w7 ⟨rfl, hm⟩
      exact ⟨rfl, .inr ⟨_, rfl, HE.out, HM6.out.t hm⟩⟩
    have Q := hide (wantY (s := r1.1) HD6.out [41] #[41] rfl hw7)
    go_wp2_with fail
    refine Q.out.mono ?_
    rintro e w7 ⟨rfl, hd, hm⟩
    have HD7 := hide (show IP b tp tc ts sz (Pr.adv (r1.1)).p w7 from hd)
    have HM7 := hide (HM6.out.t hm)
    have HG7 := hide (show m ≤ (Pr.adv (r1.1)).p from Nat.le_succ_of_le HG6.out)
    have HP1_7 := hide (HP1_6.out.mv hm hlt (Nat.le_refl _))
    clear HP1_6
    clear hd hm Q
    have HPm := hide HP1_7.out
    have HY := hide (show Pr.need ts sz r1.1 [41] = Pr.adv r1.1 from Pr.need_go hw7)
    go_wp2
    go_ret
    exact .inl ⟨(Pr.need ts sz r1.1 [41], 0), _, _, rfl, .one_round hRound HC1.out, by rw [HY.out]; exact hb1, by rw [HY.out]; exact HO1.out, by rw [HY.out]; exact HD7.out, HM7.out, HPm.out⟩
  cases hList : Pr.is ts sz s [91]
  case true =>
    go_enter Tryz.func121, Tryz.ntmps121
    go_wp2_with fail
    refine QN.out.mono ?_
    rintro e w1 ⟨rfl, hb⟩
    have HD1 := hide (HD0.out.below hb)
    have HM1 := hide (HM0.out.more hb)
    have HG1 := hide HG0.out
    clear hb QN
    unfold Pr.tokV
    have Q := hide (skipN (s := s) HD1.out hbad Pr.sNone #[110, 111, 110, 101] rfl hNone)
    go_wp2_with fail
    refine Q.out.mono ?_
    rintro e w2 ⟨rfl, hd, hb⟩
    have hm : Ip.Mv b w1 w2 := .below hb
    clear hb
    have HD2 := hide (show IP b tp tc ts sz (s).p w2 from hd)
    have HM2 := hide (HM1.out.t hm)
    have HG2 := hide (show m ≤ (s).p from HG1.out)
    clear hd hm Q
    have Q := hide (skipN (s := s) HD2.out hbad Pr.sFalse #[102, 97, 108, 115, 101] rfl hFalse)
    go_wp2_with fail
    refine Q.out.mono ?_
    rintro e w3 ⟨rfl, hd, hb⟩
    have hm : Ip.Mv b w2 w3 := .below hb
    clear hb
    have HD3 := hide (show IP b tp tc ts sz (s).p w3 from hd)
    have HM3 := hide (HM2.out.t hm)
    have HG3 := hide (show m ≤ (s).p from HG2.out)
    clear hd hm Q
    have Q := hide (skipN (s := s) HD3.out hbad Pr.sTrue #[116, 114, 117, 101] rfl hTrue)
    go_wp2_with fail
    refine Q.out.mono ?_
    rintro e w4 ⟨rfl, hd, hb⟩
    have hm : Ip.Mv b w3 w4 := .below hb
    clear hb
    have HD4 := hide (show IP b tp tc ts sz (s).p w4 from hd)
    have HM4 := hide (HM3.out.t hm)
    have HG4 := hide (show m ≤ (s).p from HG3.out)
    clear hd hm Q
    have Q := hide (skipN (s := s) HD4.out hbad [40] #[40] rfl hRound)
    go_wp2_with fail
    refine Q.out.mono ?_
    rintro e w5 ⟨rfl, hd, hb⟩
    have hm : Ip.Mv b w4 w5 := .below hb
    clear hb
    have HD5 := hide (show IP b tp tc ts sz (s).p w5 from hd)
    have HM5 := hide (HM4.out.t hm)
    have HG5 := hide (show m ≤ (s).p from HG4.out)
    clear hd hm Q
    have Q := hide (skipY (s := s) HD5.out [91] #[91] rfl hList)
    go_wp2_with fail
    refine Q.out.mono ?_
    rintro e w6 ⟨rfl, hd, hm⟩
    have HD6 := hide (show IP b tp tc ts sz (Pr.adv (s)).p w6 from hd)
    have HM6 := hide (HM5.out.t hm)
    have HG6 := hide (show m ≤ (Pr.adv (s)).p from Nat.le_succ_of_le HG5.out)
    clear hd hm Q
    have hbad2 : (Pr.adv s).bad = false := hbad
    have Q := hide (ilist_any (s := Pr.adv s) (m := m + 1) hbad2 (Nat.succ_le_succ HG1.out) ihE _ HD6.out)
    go_wp2_with fail
    refine Q.out.mono ?_
    rintro e w7 (⟨r1, v1, l1, rfl, hc, hb1, ho, hd, hm, hp⟩ | ⟨q, rfl, hq, hm⟩)
    rotate_left
    · exact ⟨rfl, .inr ⟨_, rfl, .one_list hList hq, HM6.out.t hm⟩⟩
    have HH : Hid (Ip.Out b tp tc ts sz .single s w0 (.returned v1) w7) := hide (.inl ⟨r1, v1, l1, rfl, .one_list hList hc, hb1, ho, hd, HM6.out.t hm, hp.low HM6.out.size⟩)
    clear hc ho hd hm hp Q
    go_wp2
    go_ret
    exact HH.out
  cases hRec : Pr.is ts sz s [123]
  case true =>
    go_enter Tryz.func121, Tryz.ntmps121
    go_wp2_with fail
    refine QN.out.mono ?_
    rintro e w1 ⟨rfl, hb⟩
    have HD1 := hide (HD0.out.below hb)
    have HM1 := hide (HM0.out.more hb)
    have HG1 := hide HG0.out
    clear hb QN
    unfold Pr.tokV
    have Q := hide (skipN (s := s) HD1.out hbad Pr.sNone #[110, 111, 110, 101] rfl hNone)
    go_wp2_with fail
    refine Q.out.mono ?_
    rintro e w2 ⟨rfl, hd, hb⟩
    have hm : Ip.Mv b w1 w2 := .below hb
    clear hb
    have HD2 := hide (show IP b tp tc ts sz (s).p w2 from hd)
    have HM2 := hide (HM1.out.t hm)
    have HG2 := hide (show m ≤ (s).p from HG1.out)
    clear hd hm Q
    have Q := hide (skipN (s := s) HD2.out hbad Pr.sFalse #[102, 97, 108, 115, 101] rfl hFalse)
    go_wp2_with fail
    refine Q.out.mono ?_
    rintro e w3 ⟨rfl, hd, hb⟩
    have hm : Ip.Mv b w2 w3 := .below hb
    clear hb
    have HD3 := hide (show IP b tp tc ts sz (s).p w3 from hd)
    have HM3 := hide (HM2.out.t hm)
    have HG3 := hide (show m ≤ (s).p from HG2.out)
    clear hd hm Q
    have Q := hide (skipN (s := s) HD3.out hbad Pr.sTrue #[116, 114, 117, 101] rfl hTrue)
    go_wp2_with fail
    refine Q.out.mono ?_
    rintro e w4 ⟨rfl, hd, hb⟩
    have hm : Ip.Mv b w3 w4 := .below hb
    clear hb
    have HD4 := hide (show IP b tp tc ts sz (s).p w4 from hd)
    have HM4 := hide (HM3.out.t hm)
    have HG4 := hide (show m ≤ (s).p from HG3.out)
    clear hd hm Q
    have Q := hide (skipN (s := s) HD4.out hbad [40] #[40] rfl hRound)
    go_wp2_with fail
    refine Q.out.mono ?_
    rintro e w5 ⟨rfl, hd, hb⟩
    have hm : Ip.Mv b w4 w5 := .below hb
    clear hb
    have HD5 := hide (show IP b tp tc ts sz (s).p w5 from hd)
    have HM5 := hide (HM4.out.t hm)
    have HG5 := hide (show m ≤ (s).p from HG4.out)
    clear hd hm Q
    have Q := hide (skipN (s := s) HD5.out hbad [91] #[91] rfl hList)
    go_wp2_with fail
    refine Q.out.mono ?_
    rintro e w6 ⟨rfl, hd, hb⟩
    have hm : Ip.Mv b w5 w6 := .below hb
    clear hb
    have HD6 := hide (show IP b tp tc ts sz (s).p w6 from hd)
    have HM6 := hide (HM5.out.t hm)
    have HG6 := hide (show m ≤ (s).p from HG5.out)
    clear hd hm Q
    have Q := hide (skipY (s := s) HD6.out [123] #[123] rfl hRec)
    go_wp2_with fail
    refine Q.out.mono ?_
    rintro e w7 ⟨rfl, hd, hm⟩
    have HD7 := hide (show IP b tp tc ts sz (Pr.adv (s)).p w7 from hd)
    have HM7 := hide (HM6.out.t hm)
    have HG7 := hide (show m ≤ (Pr.adv (s)).p from Nat.le_succ_of_le HG6.out)
    clear hd hm Q
    have hbad2 : (Pr.adv s).bad = false := hbad
    have Q := hide (upTo_any (E := [125]) (a := #[125]) rfl (lo := w0.heap.size) (nb := b) (f := false) (m := m + 1) (fst := #[.pointer (some ⟨b, 0, none⟩)]) (cap := #[]) (Ip.keeps_true b _) ((fields_any (b := b) (tp := tp) (tc := tc) (ts := ts) (sz := sz) (m := m + 1) ihE).up (Nat.zero_le _)) hlt (ent_field _) (s := Pr.adv s) (fun h => .recordL_end (Pr.is_fine h) h) (Nat.succ_le_succ HG1.out) hbad2 HM7.out.size HD7.out trivial)
    go_wp2_with fail
    refine Q.out.mono ?_
    rintro e w8 (⟨d1, n1, sv, l1, rfl, hf, hb1, he1, ho, hge, hd, hm, hr, hn1s⟩ | ⟨q, rfl, hq, hm⟩)
    rotate_left
    · exact ⟨rfl, .inr ⟨_, rfl, hq.elim (fun h => .one_record hRec (.record1 h)) (fun ⟨t, n, h1, h2⟩ => .one_record hRec (.record2 h1 h2)), HM7.out.t hm.one⟩⟩
    obtain ⟨sp1, sc1, rfl⟩ := hr.form
    have HF1 := hide hf
    have HO1 := hide ho
    have HRn := hide (hr.low HM7.out.size)
    have hm1 := hm.one
    clear ho hr hf hm
    have HD8 := hide (show IP b tp tc ts sz (Pr.adv d1).p w8 from hd)
    have HM8 := hide (HM7.out.t hm1)
    have HG8 := hide (show m ≤ (Pr.adv d1).p from Nat.le_succ_of_le (Nat.le_trans HG7.out hge))
    clear hd hm1 Q
    have HR1_8 := hide HRn.out
    clear HRn hge
    have Q := hide (newPart_any 9 0 0 0 ⟨#[]⟩ sp1 n1 sc1 w8)
    go_wp2_with fail
    refine Q.out.mono ?_
    rintro e w9 ⟨rfl, hb⟩
    have HPm := hide ((HR1_8.out.below hb).made (x := ⟨9, 0, 0, ⟨#[]⟩, (n1 : Nat)⟩) rfl)
    have HD9 := hide (HD8.out.below hb)
    have HM9 := hide (HM8.out.more hb)
    clear hb Q
    have HY := hide (show Pr.need ts sz d1 [125] = Pr.adv d1 from Pr.need_go he1)
    go_wp2
    go_ret
    exact .inl ⟨(Pr.put (Pr.need ts sz d1 [125]) 9 0 0 [] (2 * n1 / 2), 0), _, _, rfl, .one_record hRec (.record_ok (r1 := (d1, 2 * n1)) (by simp) HF1.out), by rw [HY.out]; exact hb1, by rw [HY.out, Nat.mul_div_cancel_left _ (by decide)]; simp [Pr.put, HO1.out], by rw [HY.out]; exact HD9.out, HM9.out, HPm.out⟩
  go_enter Tryz.func121, Tryz.ntmps121
  go_wp2_with fail
  refine QN.out.mono ?_
  rintro e w1 ⟨rfl, hb⟩
  have HD1 := hide (HD0.out.below hb)
  have HM1 := hide (HM0.out.more hb)
  have HG1 := hide HG0.out
  clear hb QN
  unfold Pr.tokV
  have Q := hide (skipN (s := s) HD1.out hbad Pr.sNone #[110, 111, 110, 101] rfl hNone)
  go_wp2_with fail
  refine Q.out.mono ?_
  rintro e w2 ⟨rfl, hd, hb⟩
  have hm : Ip.Mv b w1 w2 := .below hb
  clear hb
  have HD2 := hide (show IP b tp tc ts sz (s).p w2 from hd)
  have HM2 := hide (HM1.out.t hm)
  have HG2 := hide (show m ≤ (s).p from HG1.out)
  clear hd hm Q
  have Q := hide (skipN (s := s) HD2.out hbad Pr.sFalse #[102, 97, 108, 115, 101] rfl hFalse)
  go_wp2_with fail
  refine Q.out.mono ?_
  rintro e w3 ⟨rfl, hd, hb⟩
  have hm : Ip.Mv b w2 w3 := .below hb
  clear hb
  have HD3 := hide (show IP b tp tc ts sz (s).p w3 from hd)
  have HM3 := hide (HM2.out.t hm)
  have HG3 := hide (show m ≤ (s).p from HG2.out)
  clear hd hm Q
  have Q := hide (skipN (s := s) HD3.out hbad Pr.sTrue #[116, 114, 117, 101] rfl hTrue)
  go_wp2_with fail
  refine Q.out.mono ?_
  rintro e w4 ⟨rfl, hd, hb⟩
  have hm : Ip.Mv b w3 w4 := .below hb
  clear hb
  have HD4 := hide (show IP b tp tc ts sz (s).p w4 from hd)
  have HM4 := hide (HM3.out.t hm)
  have HG4 := hide (show m ≤ (s).p from HG3.out)
  clear hd hm Q
  have Q := hide (skipN (s := s) HD4.out hbad [40] #[40] rfl hRound)
  go_wp2_with fail
  refine Q.out.mono ?_
  rintro e w5 ⟨rfl, hd, hb⟩
  have hm : Ip.Mv b w4 w5 := .below hb
  clear hb
  have HD5 := hide (show IP b tp tc ts sz (s).p w5 from hd)
  have HM5 := hide (HM4.out.t hm)
  have HG5 := hide (show m ≤ (s).p from HG4.out)
  clear hd hm Q
  have Q := hide (skipN (s := s) HD5.out hbad [91] #[91] rfl hList)
  go_wp2_with fail
  refine Q.out.mono ?_
  rintro e w6 ⟨rfl, hd, hb⟩
  have hm : Ip.Mv b w5 w6 := .below hb
  clear hb
  have HD6 := hide (show IP b tp tc ts sz (s).p w6 from hd)
  have HM6 := hide (HM5.out.t hm)
  have HG6 := hide (show m ≤ (s).p from HG5.out)
  clear hd hm Q
  have Q := hide (skipN (s := s) HD6.out hbad [123] #[123] rfl hRec)
  go_wp2_with fail
  refine Q.out.mono ?_
  rintro e w7 ⟨rfl, hd, hb⟩
  have hm : Ip.Mv b w6 w7 := .below hb
  clear hb
  have HD7 := hide (show IP b tp tc ts sz (s).p w7 from hd)
  have HM7 := hide (HM6.out.t hm)
  have HG7 := hide (show m ≤ (s).p from HG6.out)
  clear hd hm Q
  have Q := hide (istuck_any (s := s) HD7.out)
  go_wp2_with fail
  refine Q.out.mono ?_
  rintro e w8 ⟨rfl, hb⟩
  have HM8 := hide (HM7.out.more hb)
  clear hb Q
  go_wp2
  exact ⟨rfl, .inr ⟨_, rfl, .of (.single_stop hbad hk3 hk4 hk1 hNone hFalse hTrue hList hRec hRound) (.stop_of hbad), HM8.out⟩⟩

end Go.Proofs.YtfjoecbkagedbaaGreatDoor
