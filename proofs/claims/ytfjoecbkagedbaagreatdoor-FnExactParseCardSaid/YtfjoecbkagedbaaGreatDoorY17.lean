/- Ps, Pv. -/
import Derived.Test.YtfjoecbkagedbaaGreatDoorY16
import Derived.Test.YtfjoecbkagedbaaGreatDoorY15
namespace Go.Proofs.YtfjoecbkagedbaaGreatDoor
open Go.RowKit
theorem Ip.Out.rebase {b tc sz : Nat} {tp : Option Addr} {ts : List Sc.T} {c : Pr.Cmd} {s : Pr.Dk} {w0 w w' : World} {e : Ending} (h : Ip.Out b tp tc ts sz c s w e w') (hm : Ip.Mv b w0 w) : Ip.Out b tp tc ts sz c s w0 e w' := by
  rcases h with ⟨r, v, l, h1, h2, h3, h4, h5, h6, h7⟩ | ⟨q, h1, h2, h3⟩
  · exact .inl ⟨r, v, l, h1, h2, h3, h4, h5, hm.t h6, h7.low hm.size⟩
  · exact .inr ⟨q, h1, h2, hm.t h3⟩
set_option maxRecDepth 100000 in
set_option maxHeartbeats 2000000 in
theorem ifn_any {b tc sz m : Nat} {tp : Option Addr} {ts : List Sc.T} {s : Pr.Dk} (hi : Pr.is ts sz s Pr.sFn = true) (hm0 : m ≤ (Pr.adv s).p) (ihE : ∀ q : Pr.Dk, m ≤ q.p → q.p ≤ ts.length → q.bad = false → Ip.DE b tp tc ts sz q) :
    Ip.Does b tp tc ts sz 113 #[.pointer (some ⟨b, 0, none⟩)] .e s (Pr.adv s) := by
  intro w0 hd0
  have hlt := hd0.lt
  have hmost := hd0.most
  have HD0 := hide hd0
  have HM0 := hide (Ip.Mv.refl b w0)
  have HG0 := hide (show m ≤ (Pr.adv s).p from hm0)
  have hbad : (Pr.adv s).bad = false := (Pr.is_fine hi : s.bad = false)
  have hmf : ∀ (fn : Fn) (first cap : Array Value) (w : World), (Instr.makeFunc fn first cap).run Tryz.prog w = .ok (.func fn first cap) w := fun _ _ _ _ => rfl
  clear hd0
  go_enter Tryz.func113, Tryz.ntmps113
  cases hw1 : Pr.is ts sz (Pr.adv s) [40]
  case false =>
    have hB := Pr.Bd.need_of (ts := ts) (sz := sz) (s := Pr.adv s) hbad hw1
    have HE := hide (show Pr.Ends ts sz .e s (Pr.tok ts sz (Pr.adv s)).place from .fn1 hi (.params1 (hB.paramsL 0)))
    have Q := hide (wantN (s := Pr.adv s) HD0.out hbad [40] #[40] rfl hw1)
    clear hB
    go_wp2_with fail
    refine Q.out.mono ?_
    rintro e w1 ⟨rfl, hm⟩
    exact ⟨rfl, .inr ⟨_, rfl, HE.out, HM0.out.t hm⟩⟩
  have Q := hide (wantY (s := Pr.adv s) HD0.out [40] #[40] rfl hw1)
  go_wp2_with fail
  refine Q.out.mono ?_
  rintro e w1 ⟨rfl, hd, hm⟩
  have HD1 := hide (show IP b tp tc ts sz (Pr.adv (Pr.adv s)).p w1 from hd)
  have HM1 := hide (HM0.out.t hm)
  have HG1 := hide (show m ≤ (Pr.adv (Pr.adv s)).p from Nat.le_succ_of_le HG0.out)
  clear hd hm Q
  have HX := hide (show Pr.need ts sz (Pr.adv s) [40] = Pr.adv (Pr.adv s) from Pr.need_go hw1)
  have Q := hide (upTo_any (E := [41]) (a := #[41]) rfl (lo := w0.heap.size) (nb := b) (f := false) (m := m) (fst := #[.pointer (some ⟨b, 0, none⟩)]) (cap := #[]) (Ip.keeps_true b _) ((params_any (b := b) (tp := tp) (tc := tc) (ts := ts) (sz := sz) (m := m) ihE).up (Nat.zero_le _)) hlt (ent_param _) (fun h => .paramsL_end (Pr.is_fine h) h) HG1.out hbad HM1.out.size HD1.out trivial)
  go_wp2_with fail
  refine Q.out.mono ?_
  rintro e w2 (⟨d1, n1, sv, l1, rfl, hf, hb1, he1, ho, hge, hd, hm, hr, hn1s⟩ | ⟨q, rfl, hq, hm⟩)
  rotate_left
  · exact ⟨rfl, .inr ⟨_, rfl, .fn1 hi (hq.elim (fun h => .params1 (by rw [HX.out]; exact h)) (fun ⟨t, n, h1, h2⟩ => .params2 (r1 := (t, n)) (by rw [HX.out]; exact h1) h2)), HM1.out.t hm.one⟩⟩
  obtain ⟨sp1, sc1, rfl⟩ := hr.form
  have HF1 := hide hf
  have HO1 := hide ho
  have HRn := hide (hr.low HM1.out.size)
  have hm1 := hm.one
  clear ho hr hf hm
  have HD2 := hide (show IP b tp tc ts sz (Pr.adv d1).p w2 from hd)
  have HM2 := hide (HM1.out.t hm1)
  have HG2 := hide (show m ≤ (Pr.adv d1).p from Nat.le_succ_of_le (Nat.le_trans HG1.out hge))
  clear hd hm1 Q
  have HR1_2 := hide HRn.out
  clear HRn hge
  have HZ := hide (show Pr.Cv ts sz .params (Pr.adv s) (Pr.adv d1, n1) from by have := Pr.Cv.params (s := Pr.adv s) (r1 := (d1, n1)) (by rw [HX.out]; exact HF1.out); rw [Pr.need_go he1] at this; exact this)
  cases hw3 : Pr.is ts sz (Pr.adv d1) [61, 62]
  case false =>
    have hB := Pr.Bd.need_of (ts := ts) (sz := sz) (s := Pr.adv d1) hb1 hw3
    have HE := hide (show Pr.Ends ts sz .e s (Pr.tok ts sz (Pr.adv d1)).place from .fn2 hi HZ.out hB.e)
    have Q := hide (wantN (s := Pr.adv d1) HD2.out hb1 [61, 62] #[61, 62] rfl hw3)
    clear hB
    go_wp2_with fail
    refine Q.out.mono ?_
    rintro e w3 ⟨rfl, hm⟩
    exact ⟨rfl, .inr ⟨_, rfl, HE.out, HM2.out.t hm⟩⟩
  have Q := hide (wantY (s := Pr.adv d1) HD2.out [61, 62] #[61, 62] rfl hw3)
  go_wp2_with fail
  refine Q.out.mono ?_
  rintro e w3 ⟨rfl, hd, hm⟩
  have HD3 := hide (show IP b tp tc ts sz (Pr.adv (Pr.adv d1)).p w3 from hd)
  have HM3 := hide (HM2.out.t hm)
  have HG3 := hide (show m ≤ (Pr.adv (Pr.adv d1)).p from Nat.le_succ_of_le HG2.out)
  have HR1_3 := hide (HR1_2.out.mv hm hlt (Nat.le_refl _))
  clear HR1_2
  clear hd hm Q
  have HA := hide (show ∀ q, (Value.slice sp1 n1 sc1).ownBlock = some q → q < w3.heap.size from fun q e => (HR1_3.out.lt e).2)
  have Q := hide (ihE (Pr.adv (Pr.adv d1)) HG3.out HD3.out.le hb1 _ HD3.out)
  go_wp2_with fail
  refine Q.out.mono ?_
  rintro e w4 (⟨r2, v2, l2, rfl, hc, hb2, ho, hd, hm, hp⟩ | ⟨q, rfl, hq, hm⟩)
  rotate_left
  · exact ⟨rfl, .inr ⟨_, rfl, .fn2 hi HZ.out (by rw [Pr.need_go hw3]; exact hq), HM3.out.t hm⟩⟩
  obtain ⟨t2, u2, rfl⟩ := hp.iface
  have HC2 := hide hc
  have HO2 := hide ho
  have HPn := hide (hp.low HM3.out.size)
  have HPraw := hide hp
  clear ho hp
  have HD4 := hide (show IP b tp tc ts sz (r2.1).p w4 from hd)
  have HM4 := hide (HM3.out.t hm)
  have HG4 := hide (show m ≤ (r2.1).p from Nat.le_trans HG3.out (hc.stp HD3.out.le).ge)
  have HR1_4 := hide (HR1_3.out.mv hm hlt (Nat.le_refl _))
  clear HR1_3
  clear hd hm Q
  clear hc
  have HP2_4 := hide HPn.out
  clear HPn
  go_wp2_with (at_builtin; refine wp_push rfl _ _ rfl w0.heap.size w3.heap.size n1 (.slice sp1 n1 sc1) (.iface t2 u2) l1 l2 HR1_4.out HPraw.out HM3.out.size HM4.out.size HA.out (by omega) rfl rfl ?_)
  intro v w5 hr hb
  obtain ⟨sq1, sd1, rfl⟩ := hr.form
  have HS1_5 := hide hr
  have HD5 := hide (HD4.out.fresh hb hlt)
  have HM5 := hide (HM4.out.fresh hb (Nat.le_refl _))
  have HG5 := hide HG4.out
  clear hr hb HR1_4 HP2_4 HPraw HA
  have Q := hide (newPart_any 15 0 0 0 ⟨#[]⟩ sq1 (n1 + 1) sd1 w5)
  go_wp2_with fail
  refine Q.out.mono ?_
  rintro e w6 ⟨rfl, hb⟩
  have HPm := hide ((HS1_5.out.below hb).made (x := ⟨15, 0, 0, ⟨#[]⟩, ((n1 + 1) : Nat)⟩) rfl)
  have HD6 := hide (HD5.out.below hb)
  have HM6 := hide (HM5.out.more hb)
  clear hb Q
  go_wp2
  go_ret
  exact .inl ⟨(Pr.put r2.1 15 0 0 [] (n1 + 1), 0), _, _, rfl, .e_fn (r1 := (Pr.adv d1, n1)) (Pr.is_not hi (by decide)) (Pr.is_not hi (by decide)) hi HZ.out (by rw [Pr.need_go hw3]; exact HC2.out), hb2, by simp [Pr.put, HO1.out, HO2.out], HD6.out, HM6.out, HPm.out⟩

set_option maxRecDepth 100000 in
set_option maxHeartbeats 2000000 in
theorem istatement_any {b tc sz m : Nat} {tp : Option Addr} {ts : List Sc.T} {s : Pr.Dk} (hbad : s.bad = false) (hm0 : m ≤ s.p) (ihE : ∀ q : Pr.Dk, m ≤ q.p → q.p ≤ ts.length → q.bad = false → Ip.DE b tp tc ts sz q) :
    Ip.Does b tp tc ts sz 36 #[.pointer (some ⟨b, 0, none⟩)] .statement s (s) := by
  intro w0 hd0
  have hlt := hd0.lt
  have hmost := hd0.most
  have HD0 := hide hd0
  have HM0 := hide (Ip.Mv.refl b w0)
  have HG0 := hide (show m ≤ (s).p from hm0)
  clear hd0
  go_enter Tryz.func36, Tryz.ntmps36
  cases hDef : Pr.is ts sz s Pr.sDef
  case true =>
    have Q := hide (skipY (s := s) HD0.out Pr.sDef #[100, 101, 102] rfl hDef)
    go_wp2_with fail
    refine Q.out.mono ?_
    rintro e w1 ⟨rfl, hd, hm⟩
    have HD1 := hide (show IP b tp tc ts sz (Pr.adv (s)).p w1 from hd)
    have HM1 := hide (HM0.out.t hm)
    have HG1 := hide (show m ≤ (Pr.adv (s)).p from Nat.le_succ_of_le HG0.out)
    clear hd hm Q
    have Q := hide (idef_any hDef HG1.out ihE _ HD1.out)
    go_wp2_with fail
    refine Q.out.mono ?_
    rintro e w2 (⟨r1, v1, l1, rfl, hc, hb1, ho, hd, hm, hp⟩ | ⟨q, rfl, hq, hm⟩)
    rotate_left
    · exact ⟨rfl, .inr ⟨_, rfl, hq, HM1.out.t hm⟩⟩
    have HH := hide (Ip.Out.rebase (e := .returned v1) (.inl ⟨r1, v1, l1, rfl, hc, hb1, ho, hd, hm, hp⟩) HM1.out)
    clear hc ho hd hm hp Q
    go_wp2
    go_ret
    exact HH.out
  cases hLet : Pr.is ts sz s Pr.sLet
  case true =>
    have Q := hide (skipN (s := s) HD0.out hbad Pr.sDef #[100, 101, 102] rfl hDef)
    go_wp2_with fail
    refine Q.out.mono ?_
    rintro e w1 ⟨rfl, hd, hb⟩
    have hm : Ip.Mv b w0 w1 := .below hb
    clear hb
    have HD1 := hide (show IP b tp tc ts sz (s).p w1 from hd)
    have HM1 := hide (HM0.out.t hm)
    have HG1 := hide (show m ≤ (s).p from HG0.out)
    clear hd hm Q
    have Q := hide (skipY (s := s) HD1.out Pr.sLet #[108, 101, 116] rfl hLet)
    go_wp2_with fail
    refine Q.out.mono ?_
    rintro e w2 ⟨rfl, hd, hm⟩
    have HD2 := hide (show IP b tp tc ts sz (Pr.adv (s)).p w2 from hd)
    have HM2 := hide (HM1.out.t hm)
    have HG2 := hide (show m ≤ (Pr.adv (s)).p from Nat.le_succ_of_le HG1.out)
    clear hd hm Q
    have Q := hide (iset_any hLet HG2.out ihE _ HD2.out)
    go_wp2_with fail
    refine Q.out.mono ?_
    rintro e w3 (⟨r1, v1, l1, rfl, hc, hb1, ho, hd, hm, hp⟩ | ⟨q, rfl, hq, hm⟩)
    rotate_left
    · exact ⟨rfl, .inr ⟨_, rfl, hq, HM2.out.t hm⟩⟩
    have HH := hide (Ip.Out.rebase (e := .returned v1) (.inl ⟨r1, v1, l1, rfl, hc, hb1, ho, hd, hm, hp⟩) HM2.out)
    clear hc ho hd hm hp Q
    go_wp2
    go_ret
    exact HH.out
  cases hEmit : Pr.is ts sz s Pr.sEmit
  case true =>
    have Q := hide (skipN (s := s) HD0.out hbad Pr.sDef #[100, 101, 102] rfl hDef)
    go_wp2_with fail
    refine Q.out.mono ?_
    rintro e w1 ⟨rfl, hd, hb⟩
    have hm : Ip.Mv b w0 w1 := .below hb
    clear hb
    have HD1 := hide (show IP b tp tc ts sz (s).p w1 from hd)
    have HM1 := hide (HM0.out.t hm)
    have HG1 := hide (show m ≤ (s).p from HG0.out)
    clear hd hm Q
    have Q := hide (skipN (s := s) HD1.out hbad Pr.sLet #[108, 101, 116] rfl hLet)
    go_wp2_with fail
    refine Q.out.mono ?_
    rintro e w2 ⟨rfl, hd, hb⟩
    have hm : Ip.Mv b w1 w2 := .below hb
    clear hb
    have HD2 := hide (show IP b tp tc ts sz (s).p w2 from hd)
    have HM2 := hide (HM1.out.t hm)
    have HG2 := hide (show m ≤ (s).p from HG1.out)
    clear hd hm Q
    have Q := hide (skipY (s := s) HD2.out Pr.sEmit #[101, 109, 105, 116] rfl hEmit)
    go_wp2_with fail
    refine Q.out.mono ?_
    rintro e w3 ⟨rfl, hd, hm⟩
    have HD3 := hide (show IP b tp tc ts sz (Pr.adv (s)).p w3 from hd)
    have HM3 := hide (HM2.out.t hm)
    have HG3 := hide (show m ≤ (Pr.adv (s)).p from Nat.le_succ_of_le HG2.out)
    clear hd hm Q
    have hbad2 : (Pr.adv s).bad = false := hbad
    have Q := hide (ihE (Pr.adv (s)) HG3.out HD3.out.le hbad2 _ HD3.out)
    go_wp2_with fail
    refine Q.out.mono ?_
    rintro e w4 (⟨r1, v1, l1, rfl, hc, hb1, ho, hd, hm, hp⟩ | ⟨q, rfl, hq, hm⟩)
    rotate_left
    · exact ⟨rfl, .inr ⟨_, rfl, .emit1 hEmit hq, HM3.out.t hm⟩⟩
    obtain ⟨t1, u1, rfl⟩ := hp.iface
    have HC1 := hide hc
    have HO1 := hide ho
    have HPn := hide (hp.low HM3.out.size)
    clear ho hp
    have HD4 := hide (show IP b tp tc ts sz (r1.1).p w4 from hd)
    have HM4 := hide (HM3.out.t hm)
    have HG4 := hide (show m ≤ (r1.1).p from Nat.le_trans HG3.out (hc.stp HD3.out.le).ge)
    clear hd hm Q
    clear hc
    have HP1_4 := hide HPn.out
    clear HPn
    cases hw5 : Pr.is ts sz (r1.1) [59]
    case false =>
      have hB := Pr.Bd.need_of (ts := ts) (sz := sz) (s := r1.1) hb1 hw5
      have HE := hide (show Pr.Ends ts sz .statement s (Pr.tok ts sz (r1.1)).place from .emit2 hEmit HC1.out (Pr.Bd.need_of (s := Pr.put r1.1 22 0 0 [] 1) hb1 hw5))
      have Q := hide (wantN (s := r1.1) HD4.out hb1 [59] #[59] rfl hw5)
      clear hB
      go_wp2_with fail
      refine Q.out.mono ?_
      rintro e w5 ⟨rfl, hm⟩
      exact ⟨rfl, .inr ⟨_, rfl, HE.out, HM4.out.t hm⟩⟩
    have Q := hide (wantY (s := r1.1) HD4.out [59] #[59] rfl hw5)
    go_wp2_with fail
    refine Q.out.mono ?_
    rintro e w5 ⟨rfl, hd, hm⟩
    have HD5 := hide (show IP b tp tc ts sz (Pr.adv (r1.1)).p w5 from hd)
    have HM5 := hide (HM4.out.t hm)
    have HG5 := hide (show m ≤ (Pr.adv (r1.1)).p from Nat.le_succ_of_le HG4.out)
    have HP1_5 := hide (HP1_4.out.mv hm hlt (Nat.le_refl _))
    clear HP1_4
    clear hd hm Q
    have Q := hide (newPart_any 22 0 0 0 ⟨#[]⟩ (some ⟨w5.heap.size, 0, none⟩) 1 1 (w5.alloc (.cells #[.iface t1 u1] 46)))
    go_wp2_with fail
    refine Q.out.mono ?_
    rintro e w6 ⟨rfl, hb⟩
    have hr : Ip.Row w0.heap.size (w5.alloc (.cells #[.iface t1 u1] 46)) (.slice (some ⟨w5.heap.size, 0, none⟩) 1 1) 1 (l1) := (Ip.some1 HP1_5.out).row HM5.out.size (by simp)
    have HPm := hide ((hr.below hb).made (x := ⟨22, 0, 0, ⟨#[]⟩, 1⟩) rfl)
    clear hr
    have hbb := below_lit hb
    have HD6 := hide (HD5.out.below hbb)
    have HM6 := hide (HM5.out.more hbb)
    clear hb hbb Q
    have HY := hide (show Pr.need ts sz (Pr.put r1.1 22 0 0 [] 1) [59] = Pr.adv (Pr.put r1.1 22 0 0 [] 1) from Pr.need_go hw5)
    go_wp2
    go_ret
    exact .inl ⟨(Pr.need ts sz (Pr.put r1.1 22 0 0 [] 1) [59], 0), _, _, rfl, .st_emit (Pr.is_not hEmit (by decide)) (Pr.is_not hEmit (by decide)) hEmit HC1.out, by rw [HY.out]; exact hb1, by rw [HY.out]; simp [Pr.put, HO1.out], by rw [HY.out]; exact HD6.out, HM6.out, HPm.out⟩
  cases hLoad : Pr.is ts sz s Pr.sLoad
  case true =>
    have Q := hide (skipN (s := s) HD0.out hbad Pr.sDef #[100, 101, 102] rfl hDef)
    go_wp2_with fail
    refine Q.out.mono ?_
    rintro e w1 ⟨rfl, hd, hb⟩
    have hm : Ip.Mv b w0 w1 := .below hb
    clear hb
    have HD1 := hide (show IP b tp tc ts sz (s).p w1 from hd)
    have HM1 := hide (HM0.out.t hm)
    have HG1 := hide (show m ≤ (s).p from HG0.out)
    clear hd hm Q
    have Q := hide (skipN (s := s) HD1.out hbad Pr.sLet #[108, 101, 116] rfl hLet)
    go_wp2_with fail
    refine Q.out.mono ?_
    rintro e w2 ⟨rfl, hd, hb⟩
    have hm : Ip.Mv b w1 w2 := .below hb
    clear hb
    have HD2 := hide (show IP b tp tc ts sz (s).p w2 from hd)
    have HM2 := hide (HM1.out.t hm)
    have HG2 := hide (show m ≤ (s).p from HG1.out)
    clear hd hm Q
    have Q := hide (skipN (s := s) HD2.out hbad Pr.sEmit #[101, 109, 105, 116] rfl hEmit)
    go_wp2_with fail
    refine Q.out.mono ?_
    rintro e w3 ⟨rfl, hd, hb⟩
    have hm : Ip.Mv b w2 w3 := .below hb
    clear hb
    have HD3 := hide (show IP b tp tc ts sz (s).p w3 from hd)
    have HM3 := hide (HM2.out.t hm)
    have HG3 := hide (show m ≤ (s).p from HG2.out)
    clear hd hm Q
    have Q := hide (skipY (s := s) HD3.out Pr.sLoad #[108, 111, 97, 100] rfl hLoad)
    go_wp2_with fail
    refine Q.out.mono ?_
    rintro e w4 ⟨rfl, hd, hm⟩
    have HD4 := hide (show IP b tp tc ts sz (Pr.adv (s)).p w4 from hd)
    have HM4 := hide (HM3.out.t hm)
    have HG4 := hide (show m ≤ (Pr.adv (s)).p from Nat.le_succ_of_le HG3.out)
    clear hd hm Q
    have Q := hide (iload_any hLoad HG4.out _ HD4.out)
    go_wp2_with fail
    refine Q.out.mono ?_
    rintro e w5 (⟨r1, v1, l1, rfl, hc, hb1, ho, hd, hm, hp⟩ | ⟨q, rfl, hq, hm⟩)
    rotate_left
    · exact ⟨rfl, .inr ⟨_, rfl, hq, HM4.out.t hm⟩⟩
    have HH := hide (Ip.Out.rebase (e := .returned v1) (.inl ⟨r1, v1, l1, rfl, hc, hb1, ho, hd, hm, hp⟩) HM4.out)
    clear hc ho hd hm hp Q
    go_wp2
    go_ret
    exact HH.out
  have Q := hide (skipN (s := s) HD0.out hbad Pr.sDef #[100, 101, 102] rfl hDef)
  go_wp2_with fail
  refine Q.out.mono ?_
  rintro e w1 ⟨rfl, hd, hb⟩
  have hm : Ip.Mv b w0 w1 := .below hb
  clear hb
  have HD1 := hide (show IP b tp tc ts sz (s).p w1 from hd)
  have HM1 := hide (HM0.out.t hm)
  have HG1 := hide (show m ≤ (s).p from HG0.out)
  clear hd hm Q
  have Q := hide (skipN (s := s) HD1.out hbad Pr.sLet #[108, 101, 116] rfl hLet)
  go_wp2_with fail
  refine Q.out.mono ?_
  rintro e w2 ⟨rfl, hd, hb⟩
  have hm : Ip.Mv b w1 w2 := .below hb
  clear hb
  have HD2 := hide (show IP b tp tc ts sz (s).p w2 from hd)
  have HM2 := hide (HM1.out.t hm)
  have HG2 := hide (show m ≤ (s).p from HG1.out)
  clear hd hm Q
  have Q := hide (skipN (s := s) HD2.out hbad Pr.sEmit #[101, 109, 105, 116] rfl hEmit)
  go_wp2_with fail
  refine Q.out.mono ?_
  rintro e w3 ⟨rfl, hd, hb⟩
  have hm : Ip.Mv b w2 w3 := .below hb
  clear hb
  have HD3 := hide (show IP b tp tc ts sz (s).p w3 from hd)
  have HM3 := hide (HM2.out.t hm)
  have HG3 := hide (show m ≤ (s).p from HG2.out)
  clear hd hm Q
  have Q := hide (skipN (s := s) HD3.out hbad Pr.sLoad #[108, 111, 97, 100] rfl hLoad)
  go_wp2_with fail
  refine Q.out.mono ?_
  rintro e w4 ⟨rfl, hd, hb⟩
  have hm : Ip.Mv b w3 w4 := .below hb
  clear hb
  have HD4 := hide (show IP b tp tc ts sz (s).p w4 from hd)
  have HM4 := hide (HM3.out.t hm)
  have HG4 := hide (show m ≤ (s).p from HG3.out)
  clear hd hm Q
  have Q := hide (istuck_any (s := s) HD4.out)
  go_wp2_with fail
  refine Q.out.mono ?_
  rintro e w5 ⟨rfl, hb⟩
  have HM5 := hide (HM4.out.more hb)
  clear hb Q
  go_wp2
  exact ⟨rfl, .inr ⟨_, rfl, .st0 hbad hDef hLet hEmit hLoad, HM5.out⟩⟩

end Go.Proofs.YtfjoecbkagedbaaGreatDoor
namespace Go.Proofs.YtfjoecbkagedbaaGreatDoor
open Go.RowKit
/-- An arg with a name comes out. -/
def Ip.NOut (b : Nat) (tp : Option Addr) (tc : Nat) (ts : List Sc.T) (sz : Nat) (s : Pr.Dk) (w : World) (e : Ending) (w' : World) : Prop :=
  (∃ (r : Pr.Dk × Nat) (v : Value) (l : List Tr.Nd), e = .returned v ∧ Pr.isName ts sz s = true ∧ Pr.Cv ts sz .e (Pr.need ts sz (Pr.name ts sz s) [61]) r ∧ s.p ≤ r.1.p ∧ r.1.bad = false ∧ r.1.out = s.out ++ l ∧ IP b tp tc ts sz r.1.p w' ∧ Ip.Mv b w w' ∧ Ip.Pt w.heap.size w' v (l ++ [⟨18, 0, 0, ⟨(Pr.tok ts sz s).text.toArray⟩, 1⟩])) ∨
  (∃ q, e = .panicked (Ip.stuck q) ∧ Pr.Ends ts sz .e (Pr.need ts sz (Pr.name ts sz s) [61]) q ∧ Ip.Mv b w w')
set_option maxRecDepth 100000 in
set_option maxHeartbeats 2000000 in
theorem inamedArg_any {b tc sz m : Nat} {tp : Option Addr} {ts : List Sc.T} {s : Pr.Dk} (hbad : s.bad = false) (hm0 : m ≤ s.p) (ihE : ∀ q : Pr.Dk, m ≤ q.p → q.p ≤ ts.length → q.bad = false → Ip.DE b tp tc ts sz q) :
    ∀ w0, IP b tp tc ts sz s.p w0 → Calls Tryz.prog 131 #[.pointer (some ⟨b, 0, none⟩)] w0 (Ip.NOut b tp tc ts sz s w0) := by
  intro w0 hd0
  have hlt := hd0.lt
  have hmost := hd0.most
  have HD0 := hide hd0
  have HM0 := hide (Ip.Mv.refl b w0)
  have HG0 := hide (show m ≤ (s).p from hm0)
  clear hd0
  go_enter Tryz.func131, Tryz.ntmps131
  cases hk1 : ((Pr.tok ts sz (s)).kind == 1)
  case false =>
    have hB := Pr.Bd.name_of (ts := ts) (sz := sz) (s := s) hbad (by rw [Pr.isName_of hbad]; exact hk1)
    have HE := hide (show Pr.Ends ts sz .e (Pr.need ts sz (Pr.name ts sz s) [61]) (Pr.tok ts sz (s)).place from (hB.need _).e)
    have Q := hide (itakeN (s := s) HD0.out 1 (by simpa using hk1))
    clear hB
    go_wp2_with fail
    refine Q.out.mono ?_
    rintro e w1 ⟨rfl, hm⟩
    exact ⟨rfl, .inr ⟨_, rfl, HE.out, HM0.out.t hm⟩⟩
  have hn1 : Pr.isName ts sz (s) = true := by rw [Pr.isName_of hbad]; exact hk1
  have Q := hide (itakeY (s := s) HD0.out 1 (by decide) (by simpa using hk1))
  go_wp2_with fail
  refine Q.out.mono ?_
  rintro e w1 ⟨rfl, hd, hm⟩
  have HD1 := hide (show IP b tp tc ts sz (Pr.adv (s)).p w1 from hd)
  have HM1 := hide (HM0.out.t hm)
  have HG1 := hide (show m ≤ (Pr.adv (s)).p from Nat.le_succ_of_le HG0.out)
  clear hd hm Q
  have hf1 := tokField1 (Pr.tok ts sz (s)).kind (Pr.tok ts sz (s)).n (Pr.tok ts sz (s)).place ⟨(Pr.tok ts sz (s)).text.toArray⟩
  unfold Pr.tokV
  cases hw2 : Pr.is ts sz (Pr.adv (s)) [61]
  case false =>
    have hB := Pr.Bd.need_of (ts := ts) (sz := sz) (s := Pr.adv (s)) hbad hw2
    have HE := hide (show Pr.Ends ts sz .e (Pr.need ts sz (Pr.name ts sz s) [61]) (Pr.tok ts sz (Pr.adv (s))).place from by rw [Pr.name_go hn1]; exact hB.e)
    have Q := hide (wantN (s := Pr.adv (s)) HD1.out hbad [61] #[61] rfl hw2)
    clear hB
    go_wp2_with fail
    refine Q.out.mono ?_
    rintro e w2 ⟨rfl, hm⟩
    exact ⟨rfl, .inr ⟨_, rfl, HE.out, HM1.out.t hm⟩⟩
  have Q := hide (wantY (s := Pr.adv (s)) HD1.out [61] #[61] rfl hw2)
  go_wp2_with fail
  refine Q.out.mono ?_
  rintro e w2 ⟨rfl, hd, hm⟩
  have HD2 := hide (show IP b tp tc ts sz (Pr.adv (Pr.adv (s))).p w2 from hd)
  have HM2 := hide (HM1.out.t hm)
  have HG2 := hide (show m ≤ (Pr.adv (Pr.adv (s))).p from Nat.le_succ_of_le HG1.out)
  clear hd hm Q
  have HX := hide (show Pr.need ts sz (Pr.name ts sz s) [61] = Pr.adv (Pr.adv s) by rw [Pr.name_go hn1, Pr.need_go hw2])
  have Q := hide (ihE (Pr.adv (Pr.adv (s))) HG2.out HD2.out.le hbad _ HD2.out)
  go_wp2_with fail
  refine Q.out.mono ?_
  rintro e w3 (⟨r1, v1, l1, rfl, hc, hb1, ho, hd, hm, hp⟩ | ⟨q, rfl, hq, hm⟩)
  rotate_left
  · exact ⟨rfl, .inr ⟨_, rfl, by rw [HX.out]; exact hq, HM2.out.t hm⟩⟩
  obtain ⟨t1, u1, rfl⟩ := hp.iface
  have HC1 := hide hc
  have HO1 := hide ho
  have HPn := hide (hp.low HM2.out.size)
  clear ho hp
  have HD3 := hide (show IP b tp tc ts sz (r1.1).p w3 from hd)
  have HM3 := hide (HM2.out.t hm)
  have HG3 := hide (show m ≤ (r1.1).p from Nat.le_trans HG2.out (hc.stp HD2.out.le).ge)
  clear hd hm Q
  clear hc
  have HP1_3 := hide HPn.out
  clear HPn
  have Q := hide (newPart_any 18 0 0 0 ⟨(Pr.tok ts sz s).text.toArray⟩ (some ⟨w3.heap.size, 0, none⟩) 1 1 (w3.alloc (.cells #[.iface t1 u1] 46)))
  go_wp2_with fail
  refine Q.out.mono ?_
  rintro e w4 ⟨rfl, hb⟩
  have hr : Ip.Row w0.heap.size (w3.alloc (.cells #[.iface t1 u1] 46)) (.slice (some ⟨w3.heap.size, 0, none⟩) 1 1) 1 (l1) := (Ip.some1 HP1_3.out).row HM3.out.size (by simp)
  have HPm := hide ((hr.below hb).made (x := ⟨18, 0, 0, ⟨(Pr.tok ts sz s).text.toArray⟩, 1⟩) rfl)
  clear hr
  have hbb := below_lit hb
  have HD4 := hide (HD3.out.below hbb)
  have HM4 := hide (HM3.out.more hbb)
  clear hb hbb Q
  go_wp2
  go_ret
  exact .inl ⟨r1, _, l1, rfl, hn1, by rw [HX.out]; exact HC1.out, by have := (HC1.out.stp HD2.out.le).ge; simp at this; omega, hb1, HO1.out, HD4.out, HM4.out, HPm.out⟩

/-- What the reading of args holds beside the parser: whether a name has come, and where the parser lies. -/
def Ip.AInv (b nb pb : Nat) (f : Bool) (w : World) : Prop := w.cell? ⟨nb, 0, none⟩ = some (.bool f) ∧ w.frozen? ⟨nb, 0, none⟩ = false ∧ w.cell? ⟨pb, 0, none⟩ = some (.pointer (some ⟨b, 0, none⟩))
theorem Ip.AInv.keeps {b nb pb lo : Nat} (h1 : nb < lo) (h2 : pb < lo) (h3 : nb ≠ b) (h4 : pb ≠ b) : Ip.Keeps b lo (Ip.AInv b nb pb) := fun _ _ _ ⟨k1, k2, k3⟩ hw => ⟨(World.cell?_of_block (a := ⟨nb, 0, none⟩) (hw nb h1 h3)).trans k1, (World.frozen?_of_block (a := ⟨nb, 0, none⟩) (hw nb h1 h3)).trans k2, (World.cell?_of_block (a := ⟨pb, 0, none⟩) (hw pb h2 h4)).trans k3⟩
theorem Ip.AInv.set {b nb pb : Nat} {f : Bool} {w : World} (h : Ip.AInv b nb pb f w) (hne : pb ≠ nb) (f' : Bool) : Ip.AInv b nb pb f' (w.setCell ⟨nb, 0, none⟩ (.bool f')) :=
  ⟨World.cell?_setCell_same _ _ _ h.1, by rw [World.frozen?_setCell]; exact h.2.1, (World.cell?_setCell_other _ _ _ _ (fun e => hne (congrArg Addr.block e).symm)).trans h.2.2⟩
theorem IP.setOther {b tc sz p nb : Nat} {tp : Option Addr} {ts : List Sc.T} {w : World} (h : IP b tp tc ts sz p w) (hn : b < nb) (j : Nat) (v : Value) : IP b tp tc ts sz p (w.setCell ⟨nb, j, none⟩ v) := h.blocks (fun q hq => Below.heap_setCell _ _ _ _ (show q ≠ nb by omega))
theorem Ip.Mw.setOther (b : Nat) (w : World) (nb j : Nat) (v : Value) : Ip.Mw b nb w (w.setCell ⟨nb, j, none⟩ v) := .grown (Pr.grown_set w nb j v) (fun q e => by cases e; exact .inr rfl)
section
variable {b tc sz m nb pb lo : Nat} {tp : Option Addr} {ts : List Sc.T}
/-- An arg with a name, as one of some. -/
theorem argNamed_item (Inv : Bool → World → Prop) {i : Nat} {f : Bool} {s : Pr.Dk} {w0 w1 w2 : World} {e : Ending} (hn : (i == 0 && Pr.is ts sz s [41]) = false) (hb : s.bad = false) (h2 : (f || Pr.named ts sz s) = true) (hm : Ip.Mw b nb w0 w1) (h : Ip.NOut b tp tc ts sz s w1 e w2) (hv : Ip.Mv b w1 w2 → Inv true w2) :
    Ip.Item b tp tc ts sz nb Inv (fun i f s t n => Pr.Cv ts sz (.argsL i f) s (t, n)) (fun i f s q => Pr.Ends ts sz (.argsL i f) s q) i f s w0 e w2 := by
  rcases h with ⟨r, v, l, h1, hn1, hc, hge, hb1, ho, hd, hm1, hp⟩ | ⟨q, h1, hq, hm1⟩
  · refine .inl ⟨Pr.put r.1 18 0 0 (Pr.nameT ts sz s) 1, true, v, _, h1, hb1, ?_, hge, hd, hm.t (hm1.wide nb), hp.low hm.size, hv hm1, fun hc4 => ⟨fun u n k => ?_, fun q k => ?_⟩, fun hc4 => ?_⟩
    · rw [Pr.nameT_go hn1]; simp [Pr.put, ho]
    · exact .argsL_named hb hn h2 hc4 hc k
    · exact .arg2 hb hn h2 hc hc4 k
    · exact .argsL_namedEnd hb hn h2 hc4 hc
  · exact .inr ⟨q, h1, .arg1 hb hn h2 hq, hm.t (hm1.wide nb)⟩
theorem argPlain_item (Inv : Bool → World → Prop) {i : Nat} {f : Bool} {s : Pr.Dk} {w0 w1 w2 : World} {e : Ending} (hn : (i == 0 && Pr.is ts sz s [41]) = false) (hb : s.bad = false) (hle : s.p ≤ ts.length) (h2 : (f || Pr.named ts sz s) = false) (hm : Ip.Mw b nb w0 w1) (h : Ip.Out b tp tc ts sz .e s w1 e w2) (hv : Ip.Mv b w1 w2 → Inv false w2) :
    Ip.Item b tp tc ts sz nb Inv (fun i f s t n => Pr.Cv ts sz (.argsL i f) s (t, n)) (fun i f s q => Pr.Ends ts sz (.argsL i f) s q) i f s w0 e w2 := by
  rcases h with ⟨r, v, l, h1, hc, hb1, ho, hd, hm1, hp⟩ | ⟨q, h1, hq, hm1⟩
  · refine .inl ⟨r.1, false, v, l, h1, hb1, ho, (hc.stp hle).ge, hd, hm.t (hm1.wide nb), hp.low hm.size, hv hm1, fun hc4 => ⟨fun u n k => ?_, fun q k => ?_⟩, fun hc4 => ?_⟩
    · exact .argsL_plain hb hn h2 hc4 hc k
    · exact .arg4 hb hn h2 hc hc4 k
    · exact .argsL_plainEnd hb hn h2 hc4 hc
  · exact .inr ⟨q, h1, .arg3 hb hn h2 hq, hm.t (hm1.wide nb)⟩
set_option maxRecDepth 100000 in
set_option maxHeartbeats 4000000 in
theorem args_items (ihE : ∀ q : Pr.Dk, m ≤ q.p → q.p ≤ ts.length → q.bad = false → Ip.DE b tp tc ts sz q) (hnb : b < nb) (hpb : b < pb) (hnp : pb ≠ nb) (hnl : nb < lo) (hpl : pb < lo) :
    Ip.Items b tp tc ts sz nb lo m (Ip.AInv b nb pb) (fun i f s t n => Pr.Cv ts sz (.argsL i f) s (t, n)) (fun i f s q => Pr.Ends ts sz (.argsL i f) s q) (fun d => Pr.is ts sz d [41]) 129 (#[] ++ #[.pointer (some ⟨nb, 0, none⟩), .pointer (some ⟨pb, 0, none⟩)]) := by
  intro i f s hn hm0 hle hbad w0 hlo hd0 hv0
  show Calls Tryz.prog 129 #[.pointer (some ⟨nb, 0, none⟩), .pointer (some ⟨pb, 0, none⟩)] w0 _
  have hne1 : ¬ pb = nb := hnp
  have HKp := hide (Ip.AInv.keeps (b := b) (nb := nb) (pb := pb) (lo := lo) hnl hpl (by omega) (by omega))
  have HKv : Hid (∀ (g : Bool) (w w' : World), lo ≤ w.heap.size → Ip.AInv b nb pb g w → Ip.Mv b w w' → Ip.AInv b nb pb g w') := hide (fun g w w' hl hv hm => HKp.out.use hv (fun q hq hqb => hm.block q (by omega) hqb))
  have HD0 := hide hd0
  have HV0 := hide hv0
  cases hf : f
  · -- no name yet
    subst hf
    have c0 := hv0.1
    have f0 := hv0.2.1
    have c1 := hv0.2.2
    have Q := hide (inamed_any (s := s) hd0)
    clear hd0 hv0
    go_enter Tryz.func129, Tryz.ntmps129
    go_wp2_with fail
    refine Q.out.mono ?_
    rintro e w1 ⟨rfl, hb1⟩
    have hz1 := hb1.size
    have hv1 := HKp.out.use HV0.out (w' := w1) (fun q hq _ => hb1.block q (by omega))
    have x0 := hv1.1
    have x1 := hv1.2.1
    have x2 := hv1.2.2
    have HV2 := hide (hv1.set hnp (Pr.named ts sz s))
    have HD2 := hide ((HD0.out.below hb1).setOther hnb 0 (.bool (Pr.named ts sz s)))
    have HM2 := hide (Ip.Mw.t (Ip.Mv.wide (.below hb1) nb) (Ip.Mw.setOther b w1 nb 0 (.bool (Pr.named ts sz s))))
    have hz2 : (w1.setCell ⟨nb, 0, none⟩ (.bool (Pr.named ts sz s))).heap.size = w1.heap.size := by simp [World.setCell]
    clear hb1 hv1 Q
    cases hnm : Pr.named ts sz s
    · have h2 : (false || Pr.named ts sz s) = false := by rw [hnm]; rfl
      rw [hnm] at HV2 HD2 HM2 hz2
      have Q2 := hide (ihE s hm0 hle hbad _ HD2.out)
      go_wp2_with fail
      refine Q2.out.mono ?_
      intro e w3 ho
      have HH := hide (argPlain_item (nb := nb) (Ip.AInv b nb pb) hn hbad hle h2 HM2.out ho (fun hm => HKv.out _ _ _ (by rw [hz2]; omega) HV2.out hm))
      rcases ho with ⟨r, v, l, rfl, _⟩ | ⟨q, rfl, _⟩
      · go_wp2
        go_ret
        exact HH.out
      · exact ⟨rfl, HH.out⟩
    · have h2 : (false || Pr.named ts sz s) = true := by rw [hnm]; rfl
      rw [hnm] at HV2 HD2 HM2 hz2
      have Q2 := hide (inamedArg_any (m := m) hbad hm0 ihE _ HD2.out)
      go_wp2_with fail
      refine Q2.out.mono ?_
      intro e w3 ho
      have HH := hide (argNamed_item (nb := nb) (Ip.AInv b nb pb) hn hbad h2 HM2.out ho (fun hm => HKv.out _ _ _ (by rw [hz2]; omega) HV2.out hm))
      rcases ho with ⟨r, v, l, rfl, _⟩ | ⟨q, rfl, _⟩
      · go_wp2
        go_ret
        exact HH.out
      · exact ⟨rfl, HH.out⟩
  · subst hf
    have c0 := hv0.1
    have f0 := hv0.2.1
    have c1 := hv0.2.2
    have HV2 := hide (hv0.set hnp true)
    have HD2 := hide (hd0.setOther hnb 0 (.bool true))
    have HM2 := hide (Ip.Mw.setOther b w0 nb 0 (.bool true))
    have hz2 : (w0.setCell ⟨nb, 0, none⟩ (.bool true)).heap.size = w0.heap.size := by simp [World.setCell]
    have h2 : (true || Pr.named ts sz s) = true := rfl
    have Q2 := hide (inamedArg_any (m := m) hbad hm0 ihE _ HD2.out)
    clear hd0 hv0
    go_enter Tryz.func129, Tryz.ntmps129
    go_wp2_with fail
    refine Q2.out.mono ?_
    intro e w3 ho
    have HH := hide (argNamed_item (nb := nb) (Ip.AInv b nb pb) hn hbad h2 HM2.out ho (fun hm => HKv.out _ _ _ (by rw [hz2]; omega) HV2.out hm))
    rcases ho with ⟨r, v, l, rfl, _⟩ | ⟨q, rfl, _⟩
    · go_wp2
      go_ret
      exact HH.out
    · exact ⟨rfl, HH.out⟩
end
end Go.Proofs.YtfjoecbkagedbaaGreatDoor
