/- Pj, P1. -/
import Derived.Test.YtfjoecbkagedbaaGreatDoorY08
import Derived.Test.YtfjoecbkagedbaaGreatDoorY16
import Derived.Test.YtfjoecbkagedbaaGreatDoorY20
namespace Go.Proofs.YtfjoecbkagedbaaGreatDoor
open Go.RowKit
set_option maxRecDepth 100000 in
set_option maxHeartbeats 2000000 in
theorem ilet_any {b tc sz m : Nat} {tp : Option Addr} {ts : List Sc.T} {s : Pr.Dk} (hi : Pr.is ts sz s Pr.sLet = true) (hm0 : m ≤ (Pr.adv s).p) (ihE : ∀ q : Pr.Dk, m ≤ q.p → q.p ≤ ts.length → q.bad = false → Ip.DE b tp tc ts sz q) :
    Ip.Does b tp tc ts sz 111 #[.pointer (some ⟨b, 0, none⟩)] .e s (Pr.adv s) := by
  intro w0 hd0
  have hlt := hd0.lt
  have hmost := hd0.most
  have HD0 := hide hd0
  have HM0 := hide (Ip.Mv.refl b w0)
  have HG0 := hide (show m ≤ (Pr.adv s).p from hm0)
  have hbad : (Pr.adv s).bad = false := (Pr.is_fine hi : s.bad = false)
  clear hd0
  go_enter Tryz.func111, Tryz.ntmps111
  cases hk1 : ((Pr.tok ts sz (Pr.adv s)).kind == 1)
  case false =>
    have hB := Pr.Bd.name_of (ts := ts) (sz := sz) (s := Pr.adv s) hbad (by rw [Pr.isName_of hbad]; exact hk1)
    have HE := hide (show Pr.Ends ts sz .e s (Pr.tok ts sz (Pr.adv s)).place from .let1 hi (hB.need _).e)
    have Q := hide (itakeN (s := Pr.adv s) HD0.out 1 (by simpa using hk1))
    clear hB
    go_wp2_with fail
    refine Q.out.mono ?_
    rintro e w1 ⟨rfl, hm⟩
    exact ⟨rfl, .inr ⟨_, rfl, HE.out, HM0.out.t hm⟩⟩
  have hn1 : Pr.isName ts sz (Pr.adv s) = true := by rw [Pr.isName_of hbad]; exact hk1
  have Q := hide (itakeY (s := Pr.adv s) HD0.out 1 (by decide) (by simpa using hk1))
  go_wp2_with fail
  refine Q.out.mono ?_
  rintro e w1 ⟨rfl, hd, hm⟩
  have HD1 := hide (show IP b tp tc ts sz (Pr.adv (Pr.adv s)).p w1 from hd)
  have HM1 := hide (HM0.out.t hm)
  have HG1 := hide (show m ≤ (Pr.adv (Pr.adv s)).p from Nat.le_succ_of_le HG0.out)
  clear hd hm Q
  have hf1 := tokField1 (Pr.tok ts sz (Pr.adv s)).kind (Pr.tok ts sz (Pr.adv s)).n (Pr.tok ts sz (Pr.adv s)).place ⟨(Pr.tok ts sz (Pr.adv s)).text.toArray⟩
  unfold Pr.tokV
  cases hw2 : Pr.is ts sz (Pr.adv (Pr.adv s)) [61]
  case false =>
    have hB := Pr.Bd.need_of (ts := ts) (sz := sz) (s := Pr.adv (Pr.adv s)) hbad hw2
    have HE := hide (show Pr.Ends ts sz .e s (Pr.tok ts sz (Pr.adv (Pr.adv s))).place from .let1 hi (by rw [Pr.name_go hn1]; exact hB.e))
    have Q := hide (wantN (s := Pr.adv (Pr.adv s)) HD1.out hbad [61] #[61] rfl hw2)
    clear hB
    go_wp2_with fail
    refine Q.out.mono ?_
    rintro e w2 ⟨rfl, hm⟩
    exact ⟨rfl, .inr ⟨_, rfl, HE.out, HM1.out.t hm⟩⟩
  have Q := hide (wantY (s := Pr.adv (Pr.adv s)) HD1.out [61] #[61] rfl hw2)
  go_wp2_with fail
  refine Q.out.mono ?_
  rintro e w2 ⟨rfl, hd, hm⟩
  have HD2 := hide (show IP b tp tc ts sz (Pr.adv (Pr.adv (Pr.adv s))).p w2 from hd)
  have HM2 := hide (HM1.out.t hm)
  have HG2 := hide (show m ≤ (Pr.adv (Pr.adv (Pr.adv s))).p from Nat.le_succ_of_le HG1.out)
  clear hd hm Q
  have HX := hide (show Pr.need ts sz (Pr.name ts sz (Pr.adv s)) [61] = Pr.adv (Pr.adv (Pr.adv s)) by rw [Pr.name_go hn1, Pr.need_go hw2])
  have Q := hide (ihE (Pr.adv (Pr.adv (Pr.adv s))) HG2.out HD2.out.le hbad _ HD2.out)
  go_wp2_with fail
  refine Q.out.mono ?_
  rintro e w3 (⟨r1, v1, l1, rfl, hc, hb1, ho, hd, hm, hp⟩ | ⟨q, rfl, hq, hm⟩)
  rotate_left
  · exact ⟨rfl, .inr ⟨_, rfl, .let1 hi (by rw [HX.out]; exact hq), HM2.out.t hm⟩⟩
  obtain ⟨t1, u1, rfl⟩ := hp.iface
  have HC1 := hide hc
  have HO1 := hide ho
  have HPn := hide (hp.low HM2.out.size)
  clear ho hp
  have HD3 := hide (show IP b tp tc ts sz (r1.1).p w3 from hd)
  have HM3 := hide (HM2.out.t hm)
  have HG3 := hide (show m ≤ (r1.1).p from Nat.le_trans HG2.out (hc.stp HD2.out.le).ge)
  clear hd hm Q
  clear hc
  have HP1_3 := hide HPn.out
  clear HPn
  cases hw4 : Pr.is ts sz (r1.1) Pr.sIn
  case false =>
    have hB := Pr.Bd.need_of (ts := ts) (sz := sz) (s := r1.1) hb1 hw4
    have HE := hide (show Pr.Ends ts sz .e s (Pr.tok ts sz (r1.1)).place from .let2 hi (by rw [HX.out]; exact HC1.out) hB.e)
    have Q := hide (wantN (s := r1.1) HD3.out hb1 Pr.sIn #[105, 110] rfl hw4)
    clear hB
    go_wp2_with fail
    refine Q.out.mono ?_
    rintro e w4 ⟨rfl, hm⟩
    exact ⟨rfl, .inr ⟨_, rfl, HE.out, HM3.out.t hm⟩⟩
  have Q := hide (wantY (s := r1.1) HD3.out Pr.sIn #[105, 110] rfl hw4)
  go_wp2_with fail
  refine Q.out.mono ?_
  rintro e w4 ⟨rfl, hd, hm⟩
  have HD4 := hide (show IP b tp tc ts sz (Pr.adv (r1.1)).p w4 from hd)
  have HM4 := hide (HM3.out.t hm)
  have HG4 := hide (show m ≤ (Pr.adv (r1.1)).p from Nat.le_succ_of_le HG3.out)
  have HP1_4 := hide (HP1_3.out.mv hm hlt (Nat.le_refl _))
  clear HP1_3
  clear hd hm Q
  have Q := hide (ihE (Pr.adv (r1.1)) HG4.out HD4.out.le hb1 _ HD4.out)
  go_wp2_with fail
  refine Q.out.mono ?_
  rintro e w5 (⟨r2, v2, l2, rfl, hc, hb2, ho, hd, hm, hp⟩ | ⟨q, rfl, hq, hm⟩)
  rotate_left
  · exact ⟨rfl, .inr ⟨_, rfl, .let2 hi (by rw [HX.out]; exact HC1.out) (by rw [Pr.need_go hw4]; exact hq), HM4.out.t hm⟩⟩
  obtain ⟨t2, u2, rfl⟩ := hp.iface
  have HC2 := hide hc
  have HO2 := hide ho
  have HPn := hide (hp.low HM4.out.size)
  clear ho hp
  have HD5 := hide (show IP b tp tc ts sz (r2.1).p w5 from hd)
  have HM5 := hide (HM4.out.t hm)
  have HG5 := hide (show m ≤ (r2.1).p from Nat.le_trans HG4.out (hc.stp HD4.out.le).ge)
  have HP1_5 := hide (HP1_4.out.mv hm hlt (Nat.le_refl _))
  clear HP1_4
  clear hd hm Q
  clear hc
  have HP2_5 := hide HPn.out
  clear HPn
  have Q := hide (newPart_any 14 0 0 0 ⟨(Pr.tok ts sz (Pr.adv s)).text.toArray⟩ (some ⟨w5.heap.size, 0, none⟩) 2 2 (w5.alloc (.cells #[.iface t1 u1, .iface t2 u2] 46)))
  go_wp2_with fail
  refine Q.out.mono ?_
  rintro e w6 ⟨rfl, hb⟩
  have hr : Ip.Row w0.heap.size (w5.alloc (.cells #[.iface t1 u1, .iface t2 u2] 46)) (.slice (some ⟨w5.heap.size, 0, none⟩) 2 2) 2 (l1 ++ l2) := (Ip.some2 HP1_5.out HP2_5.out).row HM5.out.size (by simp)
  have HPm := hide ((hr.below hb).made (x := ⟨14, 0, 0, ⟨(Pr.tok ts sz (Pr.adv s)).text.toArray⟩, 2⟩) rfl)
  clear hr
  have hbb := below_lit hb
  have HD6 := hide (HD5.out.below hbb)
  have HM6 := hide (HM5.out.more hbb)
  clear hb hbb Q
  go_wp2
  go_ret
  exact .inl ⟨(Pr.put r2.1 14 0 0 (Pr.nameT ts sz (Pr.adv s)) 2, 0), _, _, rfl, .e_let hi (by rw [HX.out]; exact HC1.out) (by rw [Pr.need_go hw4]; exact HC2.out), hb2, by simp [Pr.put, HO1.out, HO2.out, Pr.nameT_go hn1], HD6.out, HM6.out, HPm.out⟩

set_option maxRecDepth 100000 in
set_option maxHeartbeats 2000000 in
theorem iif_any {b tc sz m : Nat} {tp : Option Addr} {ts : List Sc.T} {s : Pr.Dk} (hi : Pr.is ts sz s Pr.sIf = true) (hm0 : m ≤ (Pr.adv s).p) (ihE : ∀ q : Pr.Dk, m ≤ q.p → q.p ≤ ts.length → q.bad = false → Ip.DE b tp tc ts sz q) :
    Ip.Does b tp tc ts sz 112 #[.pointer (some ⟨b, 0, none⟩)] .e s (Pr.adv s) := by
  intro w0 hd0
  have hlt := hd0.lt
  have hmost := hd0.most
  have HD0 := hide hd0
  have HM0 := hide (Ip.Mv.refl b w0)
  have HG0 := hide (show m ≤ (Pr.adv s).p from hm0)
  have hbad : (Pr.adv s).bad = false := (Pr.is_fine hi : s.bad = false)
  clear hd0
  go_enter Tryz.func112, Tryz.ntmps112
  have Q := hide (ihE (Pr.adv s) HG0.out HD0.out.le hbad _ HD0.out)
  go_wp2_with fail
  refine Q.out.mono ?_
  rintro e w1 (⟨r1, v1, l1, rfl, hc, hb1, ho, hd, hm, hp⟩ | ⟨q, rfl, hq, hm⟩)
  rotate_left
  · exact ⟨rfl, .inr ⟨_, rfl, .if1 hi hq, HM0.out.t hm⟩⟩
  obtain ⟨t1, u1, rfl⟩ := hp.iface
  have HC1 := hide hc
  have HO1 := hide ho
  have HPn := hide (hp.low HM0.out.size)
  clear ho hp
  have HD1 := hide (show IP b tp tc ts sz (r1.1).p w1 from hd)
  have HM1 := hide (HM0.out.t hm)
  have HG1 := hide (show m ≤ (r1.1).p from Nat.le_trans HG0.out (hc.stp HD0.out.le).ge)
  clear hd hm Q
  clear hc
  have HP1_1 := hide HPn.out
  clear HPn
  cases hw2 : Pr.is ts sz (r1.1) Pr.sThen
  case false =>
    have hB := Pr.Bd.need_of (ts := ts) (sz := sz) (s := r1.1) hb1 hw2
    have HE := hide (show Pr.Ends ts sz .e s (Pr.tok ts sz (r1.1)).place from .if2 hi HC1.out hB.e)
    have Q := hide (wantN (s := r1.1) HD1.out hb1 Pr.sThen #[116, 104, 101, 110] rfl hw2)
    clear hB
    go_wp2_with fail
    refine Q.out.mono ?_
    rintro e w2 ⟨rfl, hm⟩
    exact ⟨rfl, .inr ⟨_, rfl, HE.out, HM1.out.t hm⟩⟩
  have Q := hide (wantY (s := r1.1) HD1.out Pr.sThen #[116, 104, 101, 110] rfl hw2)
  go_wp2_with fail
  refine Q.out.mono ?_
  rintro e w2 ⟨rfl, hd, hm⟩
  have HD2 := hide (show IP b tp tc ts sz (Pr.adv (r1.1)).p w2 from hd)
  have HM2 := hide (HM1.out.t hm)
  have HG2 := hide (show m ≤ (Pr.adv (r1.1)).p from Nat.le_succ_of_le HG1.out)
  have HP1_2 := hide (HP1_1.out.mv hm hlt (Nat.le_refl _))
  clear HP1_1
  clear hd hm Q
  have Q := hide (ihE (Pr.adv (r1.1)) HG2.out HD2.out.le hb1 _ HD2.out)
  go_wp2_with fail
  refine Q.out.mono ?_
  rintro e w3 (⟨r2, v2, l2, rfl, hc, hb2, ho, hd, hm, hp⟩ | ⟨q, rfl, hq, hm⟩)
  rotate_left
  · exact ⟨rfl, .inr ⟨_, rfl, .if2 hi HC1.out (by rw [Pr.need_go hw2]; exact hq), HM2.out.t hm⟩⟩
  obtain ⟨t2, u2, rfl⟩ := hp.iface
  have HC2 := hide hc
  have HO2 := hide ho
  have HPn := hide (hp.low HM2.out.size)
  clear ho hp
  have HD3 := hide (show IP b tp tc ts sz (r2.1).p w3 from hd)
  have HM3 := hide (HM2.out.t hm)
  have HG3 := hide (show m ≤ (r2.1).p from Nat.le_trans HG2.out (hc.stp HD2.out.le).ge)
  have HP1_3 := hide (HP1_2.out.mv hm hlt (Nat.le_refl _))
  clear HP1_2
  clear hd hm Q
  clear hc
  have HP2_3 := hide HPn.out
  clear HPn
  cases hw4 : Pr.is ts sz (r2.1) Pr.sElse
  case false =>
    have hB := Pr.Bd.need_of (ts := ts) (sz := sz) (s := r2.1) hb2 hw4
    have HE := hide (show Pr.Ends ts sz .e s (Pr.tok ts sz (r2.1)).place from .if3 hi HC1.out (by rw [Pr.need_go hw2]; exact HC2.out) hB.e)
    have Q := hide (wantN (s := r2.1) HD3.out hb2 Pr.sElse #[101, 108, 115, 101] rfl hw4)
    clear hB
    go_wp2_with fail
    refine Q.out.mono ?_
    rintro e w4 ⟨rfl, hm⟩
    exact ⟨rfl, .inr ⟨_, rfl, HE.out, HM3.out.t hm⟩⟩
  have Q := hide (wantY (s := r2.1) HD3.out Pr.sElse #[101, 108, 115, 101] rfl hw4)
  go_wp2_with fail
  refine Q.out.mono ?_
  rintro e w4 ⟨rfl, hd, hm⟩
  have HD4 := hide (show IP b tp tc ts sz (Pr.adv (r2.1)).p w4 from hd)
  have HM4 := hide (HM3.out.t hm)
  have HG4 := hide (show m ≤ (Pr.adv (r2.1)).p from Nat.le_succ_of_le HG3.out)
  have HP1_4 := hide (HP1_3.out.mv hm hlt (Nat.le_refl _))
  have HP2_4 := hide (HP2_3.out.mv hm hlt (Nat.le_refl _))
  clear HP1_3
  clear HP2_3
  clear hd hm Q
  have Q := hide (ihE (Pr.adv (r2.1)) HG4.out HD4.out.le hb2 _ HD4.out)
  go_wp2_with fail
  refine Q.out.mono ?_
  rintro e w5 (⟨r3, v3, l3, rfl, hc, hb3, ho, hd, hm, hp⟩ | ⟨q, rfl, hq, hm⟩)
  rotate_left
  · exact ⟨rfl, .inr ⟨_, rfl, .if3 hi HC1.out (by rw [Pr.need_go hw2]; exact HC2.out) (by rw [Pr.need_go hw4]; exact hq), HM4.out.t hm⟩⟩
  obtain ⟨t3, u3, rfl⟩ := hp.iface
  have HC3 := hide hc
  have HO3 := hide ho
  have HPn := hide (hp.low HM4.out.size)
  clear ho hp
  have HD5 := hide (show IP b tp tc ts sz (r3.1).p w5 from hd)
  have HM5 := hide (HM4.out.t hm)
  have HG5 := hide (show m ≤ (r3.1).p from Nat.le_trans HG4.out (hc.stp HD4.out.le).ge)
  have HP1_5 := hide (HP1_4.out.mv hm hlt (Nat.le_refl _))
  have HP2_5 := hide (HP2_4.out.mv hm hlt (Nat.le_refl _))
  clear HP1_4
  clear HP2_4
  clear hd hm Q
  clear hc
  have HP3_5 := hide HPn.out
  clear HPn
  have Q := hide (newPart_any 13 0 0 0 ⟨#[]⟩ (some ⟨w5.heap.size, 0, none⟩) 3 3 (w5.alloc (.cells #[.iface t1 u1, .iface t2 u2, .iface t3 u3] 46)))
  go_wp2_with fail
  refine Q.out.mono ?_
  rintro e w6 ⟨rfl, hb⟩
  have hr : Ip.Row w0.heap.size (w5.alloc (.cells #[.iface t1 u1, .iface t2 u2, .iface t3 u3] 46)) (.slice (some ⟨w5.heap.size, 0, none⟩) 3 3) 3 (l1 ++ (l2 ++ l3)) := (Ip.some3 HP1_5.out HP2_5.out HP3_5.out).row HM5.out.size (by simp)
  have HPm := hide ((hr.below hb).made (x := ⟨13, 0, 0, ⟨#[]⟩, 3⟩) rfl)
  clear hr
  have hbb := below_lit hb
  have HD6 := hide (HD5.out.below hbb)
  have HM6 := hide (HM5.out.more hbb)
  clear hb hbb Q
  go_wp2
  go_ret
  exact .inl ⟨(Pr.put r3.1 13 0 0 [] 3, 0), _, _, rfl, .e_if (Pr.is_not hi (by decide)) hi HC1.out (by rw [Pr.need_go hw2]; exact HC2.out) (by rw [Pr.need_go hw4]; exact HC3.out), hb3, by simp [Pr.put, HO1.out, HO2.out, HO3.out], HD6.out, HM6.out, HPm.out⟩

end Go.Proofs.YtfjoecbkagedbaaGreatDoor
namespace Go.Proofs.YtfjoecbkagedbaaGreatDoor
section
variable {ts : List Sc.T} {sz : Nat} {s : Pr.Dk} {q : Nat}
/-- What climbing from a rank reads. -/
def Ip.cmd (r : Nat) : Pr.Cmd := if r = 0 then .e else .ops r
def Ip.lo (r : Nat) : Nat := if r = 0 then 1 else r
def Ip.hi (k : Nat) : Nat := if 7 ≤ k then 6 else if k = 4 then 3 else k
theorem Ip.lo_ge (r : Nat) : 1 ≤ Ip.lo r ∧ r ≤ Ip.lo r ∧ (r ≤ 7 → Ip.lo r ≤ 7) ∧ (r ≤ 3 → Ip.lo r ≤ 3) := by unfold Ip.lo; split <;> omega
theorem Ip.ends_cmd {r : Nat} (h : Pr.Ends ts sz (.ops (Ip.lo r)) s q) (h0 : r = 0 → Pr.is ts sz s Pr.sLet = false ∧ Pr.is ts sz s Pr.sIf = false ∧ Pr.is ts sz s Pr.sFn = false) : Pr.Ends ts sz (Ip.cmd r) s q := by
  unfold Ip.cmd Ip.lo at *
  by_cases e : r = 0
  · simp only [e, if_true] at h ⊢
    exact .e_ops (h0 e).1 (h0 e).2.1 (h0 e).2.2 h
  · simp only [e, if_false] at h ⊢
    exact h
theorem Ip.cv_cmd {r : Nat} {m : Pr.Dk × Nat} (h : Pr.Cv ts sz (.ops (Ip.lo r)) s m) (h0 : r = 0 → Pr.is ts sz s Pr.sLet = false ∧ Pr.is ts sz s Pr.sIf = false ∧ Pr.is ts sz s Pr.sFn = false) : Pr.Cv ts sz (Ip.cmd r) s m := by
  unfold Ip.cmd Ip.lo at *
  by_cases e : r = 0
  · simp only [e, if_true] at h ⊢
    exact .e_ops (h0 e).1 (h0 e).2.1 (h0 e).2.2 h
  · simp only [e, if_false] at h ⊢
    exact h
/-- What has been read first, and what the ops behind it make of it. -/
def Ip.First (ts : List Sc.T) (sz : Nat) (least k : Nat) (s : Pr.Dk) (t : Pr.Dk) : Prop := ∀ u, Pr.Lv ts sz (Pr.rk (Ip.hi k) (Ip.lo least)) t u → ∃ q, Pr.Cv ts sz (Ip.cmd least) s q ∧ q.1 = u
theorem Ip.First.open {r : Pr.Dk × Nat} (h : Pr.Cv ts sz .e s r) : Ip.First ts sz 0 0 s r.1 := fun u hu => ⟨r, h, (show u = r.1 from hu).symm⟩
theorem Ip.First.not {least : Nat} {m : Pr.Dk × Nat} (hb : s.bad = false) (hl : least ≤ 3) (hn : Pr.is ts sz s Pr.sNot = true) (h : Pr.Cv ts sz (.ops 3) (Pr.adv s) m) : Ip.First ts sz least 3 s (Pr.put m.1 6 1 0 [] 1) := by
  intro u hu
  have hg := Ip.lo_ge least
  have e : Pr.rk (Ip.hi 3) (Ip.lo least) = Pr.rk 2 (Ip.lo least) := by
    have key : ∀ l : Fin 8, Pr.rk (Ip.hi 3) l.val = Pr.rk 2 l.val := by decide
    exact key ⟨Ip.lo least, by omega⟩
  rw [e] at hu
  obtain ⟨q, q1, q2⟩ := Pr.Lv.opsNot hb hn h (Ip.lo least) hg.1 (hg.2.2.2 hl) hu
  exact ⟨q, Ip.cv_cmd q1 (fun _ => ⟨Pr.is_not hn (by decide), Pr.is_not hn (by decide), Pr.is_not hn (by decide)⟩), q2⟩
theorem Ip.First.high {least k : Nat} {m : Pr.Dk × Nat} (hb : s.bad = false) (hl : least ≤ 7) (hk : 7 ≤ k) (hn : least ≤ 3 → Pr.is ts sz s Pr.sNot = false) (h0 : least = 0 → Pr.is ts sz s Pr.sLet = false ∧ Pr.is ts sz s Pr.sIf = false ∧ Pr.is ts sz s Pr.sFn = false) (h : Pr.Cv ts sz (.ops 7) s m) : Ip.First ts sz least k s m.1 := by
  intro u hu
  have hg := Ip.lo_ge least
  have e : Ip.hi k = 6 := by unfold Ip.hi; rw [if_pos hk]
  rw [e] at hu
  obtain ⟨q, q1, q2⟩ := Pr.Lv.ops hb h (Ip.lo least) hg.1 (hg.2.2.1 hl) (fun h3 => hn (by have := hg.2.1; omega)) hu
  exact ⟨q, Ip.cv_cmd q1 h0, q2⟩
theorem Ip.ends_not {least : Nat} (hb : s.bad = false) (hl : least ≤ 3) (hn : Pr.is ts sz s Pr.sNot = true) (h : Pr.Ends ts sz (.ops 3) (Pr.adv s) q) : Pr.Ends ts sz (Ip.cmd least) s q :=
  Ip.ends_cmd (.opsN hb hn h (Ip.lo_ge least).1 ((Ip.lo_ge least).2.2.2 hl)) (fun _ => ⟨Pr.is_not hn (by decide), Pr.is_not hn (by decide), Pr.is_not hn (by decide)⟩)
theorem Ip.ends_high {least : Nat} (hb : s.bad = false) (hl : least ≤ 7) (hn : least ≤ 3 → Pr.is ts sz s Pr.sNot = false) (h0 : least = 0 → Pr.is ts sz s Pr.sLet = false ∧ Pr.is ts sz s Pr.sIf = false ∧ Pr.is ts sz s Pr.sFn = false) (h : Pr.Ends ts sz (.ops 7) s q) : Pr.Ends ts sz (Ip.cmd least) s q :=
  Ip.ends_cmd (.ops7 hb h (Ip.lo_ge least).1 ((Ip.lo_ge least).2.2.1 hl) (fun h3 => hn (by have := (Ip.lo_ge least).2.1; omega))) h0
theorem Ip.rank_le {o : Nat} (h1 : 1 ≤ o) (h2 : o ≤ 14) : 1 ≤ Pr.rank o ∧ Pr.rank o ≤ 6 := by
  have hr := Pr.rank_in h1 h2
  simp only [List.mem_cons, List.not_mem_nil, or_false] at hr
  omega
/-- No op goes on. -/
theorem Ip.First.stop {least k o : Nat} {t : Pr.Dk} (h : Ip.First ts sz least k s t) (hb : t.bad = false) (hk : k ≤ 8) (ho : Ip.IsOp (Pr.tok ts sz t) o) (hs : o = 0 ∨ Pr.rank o < least ∨ k < (if Pr.rank o = 4 then 5 else Pr.rank o)) : ∃ q, Pr.Cv ts sz (Ip.cmd least) s q ∧ q.1 = t := by
  refine h t (Pr.Lv.stop (fun r h1 h2 => ?_))
  rcases ho with ⟨o1, o2, o3⟩ | ⟨_, o2⟩
  · rw [← Pr.is_sign hb] at o3
    refine (Pr.op_is o1 o2 o3).2 r (fun e => ?_)
    have hg := (Ip.lo_ge least).2.1
    rcases hs with hs | hs | hs
    · omega
    · omega
    · unfold Ip.hi at h2
      subst e
      have h6 : Pr.rank o ≤ 6 := (Ip.rank_le o1 o2).2
      split at hs <;> split at h2 <;> (try split at h2) <;> omega
  · exact Pr.op_none (fun x h1 h2 => by rw [Pr.is_sign hb]; exact o2 x h1 h2) r
/-- An op goes on. -/
theorem Ip.First.step {least k o : Nat} {t : Pr.Dk} {m : Pr.Dk × Nat} (h : Ip.First ts sz least k s t) (ho1 : 1 ≤ o) (ho2 : o ≤ 14) (ho : Pr.is ts sz t (Pr.mark o) = true) (hl : least ≤ Pr.rank o) (hk : (if Pr.rank o = 4 then 5 else Pr.rank o) ≤ k) (hc : Pr.Cv ts sz (.ops (Pr.rank o + 1)) (Pr.adv t) m) : Ip.First ts sz least (Pr.rank o) s (Pr.put m.1 7 o 0 [] 2) := by
  intro u hu
  have h1 := Pr.op_is ho1 ho2 ho
  have hr := Pr.rank_in ho1 ho2
  have h6 : Pr.rank o ≤ 6 := (Ip.rank_le ho1 ho2).2
  have h0 : 1 ≤ Pr.rank o := (Ip.rank_le ho1 ho2).1
  refine h u (Pr.Lv.step (r := Pr.rank o) (m := m) hr (by unfold Ip.lo; split <;> omega) ?_ (by rw [h1.1]; omega) h1.2 hc ?_)
  · unfold Ip.hi
    split at hk <;> split <;> (try split) <;> omega
  · rw [h1.1]
    have e : Ip.hi (Pr.rank o) = (if Pr.rank o = 4 then 3 else Pr.rank o) := by unfold Ip.hi; rw [if_neg (by omega)]
    rw [← e]; exact hu
theorem Ip.First.ends {least k o : Nat} {t : Pr.Dk} (h : Ip.First ts sz least k s t) (ho1 : 1 ≤ o) (ho2 : o ≤ 14) (ho : Pr.is ts sz t (Pr.mark o) = true) (hl : least ≤ Pr.rank o) (hk : (if Pr.rank o = 4 then 5 else Pr.rank o) ≤ k) (hc : Pr.Ends ts sz (.ops (Pr.rank o + 1)) (Pr.adv t) q) : Pr.Ends ts sz (Ip.cmd least) s q := by
  obtain ⟨m, k1, b1⟩ := hc.get
  have b2 : Pr.Bd q (Pr.put m.1 7 o 0 [] 2) := b1
  obtain ⟨r, r1, r2⟩ := (h.step ho1 ho2 ho hl hk k1) _ (Pr.Lv.bad b2.1 _)
  exact .of r1 (by rw [r2]; exact b2)
end
end Go.Proofs.YtfjoecbkagedbaaGreatDoor
