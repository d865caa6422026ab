/- Pw, Pt, Pu. -/
import Derived.Test.YtfjoecbkagedbaaGreatDoorY17
namespace Go.Proofs.YtfjoecbkagedbaaGreatDoor
open Go.RowKit
theorem ent_args (a : Array Value) (w : World) : Sem.run Tryz.prog (callFunc 129 a) w = .ok (.enter 129 a) w := by
  simp only [callFunc, Sem.run_bind, run_program, Result.andThen_ok, Tryz.func129, show (Tryz.f129.name == "runtime.NumGoroutine") = false by kernel_rfl, show Tryz.f129.body.isNone = false by kernel_rfl]; rfl
/-- Args come out. -/
def Ip.AOut (b : Nat) (tp : Option Addr) (tc : Nat) (ts : List Sc.T) (sz : Nat) (s : Pr.Dk) (w : World) (e : Ending) (w' : World) : Prop :=
  (∃ (t : Pr.Dk) (n : Nat) (sv : Value) (l : List Tr.Nd), e = .returned sv ∧ Pr.Cv ts sz .args s (Pr.adv t, n) ∧ t.bad = false ∧ t.out = s.out ++ l ∧ s.p ≤ t.p ∧ IP b tp tc ts sz (Pr.adv t).p w' ∧ Ip.Mv b w w' ∧ Ip.Row w.heap.size w' sv n l ∧ n ≤ ts.length + 1) ∨
  (∃ q, e = .panicked (Ip.stuck q) ∧ Pr.Ends ts sz .args s q ∧ Ip.Mv b w w')
set_option maxRecDepth 100000 in
set_option maxHeartbeats 4000000 in
theorem iargs_any {b tc sz m : Nat} {tp : Option Addr} {ts : List Sc.T} {s : Pr.Dk} (hbad : s.bad = false) (hm0 : m ≤ s.p) (ihE : ∀ q : Pr.Dk, m ≤ q.p → q.p ≤ ts.length → q.bad = false → Ip.DE b tp tc ts sz q) (w0 : World) (hd0 : IP b tp tc ts sz s.p w0) :
    Calls Tryz.prog 122 #[.pointer (some ⟨b, 0, none⟩)] w0 (Ip.AOut b tp tc ts sz s w0) := by
  have hmf : ∀ (fn : Fn) (first cap : Array Value) (w : World), (Instr.makeFunc fn first cap).run Tryz.prog w = .ok (.func fn first cap) w := fun _ _ _ _ => rfl
  have hlt := hd0.lt
  have HD0 := hide hd0
  clear hd0
  have hb1 := below_new w0 (.cells #[.pointer (some ⟨b, 0, none⟩)] 71)
  have hb2 := below_new (w0.alloc (.cells #[.pointer (some ⟨b, 0, none⟩)] 71)) (.cells #[.bool false] 4)
  have hz1 : (w0.alloc (.cells #[.pointer (some ⟨b, 0, none⟩)] 71)).heap.size = w0.heap.size + 1 := by simp
  have hz2 : ((w0.alloc (.cells #[.pointer (some ⟨b, 0, none⟩)] 71)).alloc (.cells #[.bool false] 4)).heap.size = w0.heap.size + 2 := by simp
  have hbb : Below w0.heap.size w0 ((w0.alloc (.cells #[.pointer (some ⟨b, 0, none⟩)] 71)).alloc (.cells #[.bool false] 4)) := hb1.trans (hb2.mono (by rw [hz1]; omega))
  have h1 : ((w0.alloc (.cells #[.pointer (some ⟨b, 0, none⟩)] 71)).alloc (.cells #[.bool false] 4)).heap[w0.heap.size + 1]? = some (.cells #[.bool false] 4 (0, 0)) := by have := heap_alloc_new (w0.alloc (.cells #[.pointer (some ⟨b, 0, none⟩)] 71)) (.cells #[.bool false] 4); rw [hz1] at this; exact this
  have h0 : ((w0.alloc (.cells #[.pointer (some ⟨b, 0, none⟩)] 71)).alloc (.cells #[.bool false] 4)).heap[w0.heap.size]? = some (.cells #[.pointer (some ⟨b, 0, none⟩)] 71 (0, 0)) := (hb2.block _ (by rw [hz1]; omega)).trans (heap_alloc_new w0 _)
  have hv : Ip.AInv b (w0.heap.size + 1) w0.heap.size false ((w0.alloc (.cells #[.pointer (some ⟨b, 0, none⟩)] 71)).alloc (.cells #[.bool false] 4)) := ⟨by simp only [World.cell?, h1]; rfl, by simp only [World.frozen?, h1]; rfl, by simp only [World.cell?, h0]; rfl⟩
  have Q := hide (upTo_any (E := [41]) (a := #[41]) rfl (lo := w0.heap.size + 2) (nb := w0.heap.size + 1) (f := false) (m := m) (fst := #[]) (cap := #[.pointer (some ⟨w0.heap.size + 1, 0, none⟩), .pointer (some ⟨w0.heap.size, 0, none⟩)]) (Ip.AInv.keeps (b := b) (nb := w0.heap.size + 1) (pb := w0.heap.size) (by omega) (by omega) (by omega) (by omega)) (args_items (b := b) (tp := tp) (tc := tc) (ts := ts) (sz := sz) (m := m) ihE (by omega) (by omega) (by omega) (by omega) (by omega)) (by omega) (ent_args _) (s := s) (fun h => .argsL_end (Pr.is_fine h) h) hm0 hbad (by rw [hz2]; omega) (HD0.out.below hbb) hv)
  have HB := hide hbb
  clear hb1 hb2 hbb h0 h1 hv
  go_enter Tryz.func122, Tryz.ntmps122
  go_wp2_with fail
  refine Q.out.mono ?_
  rintro e w1 (⟨t, n, sv, l, rfl, hf, hb, he, ho, hge, hd, hm, hr, hn⟩ | ⟨q, rfl, hq, hm⟩)
  rotate_left
  · exact ⟨rfl, .inr ⟨_, rfl, hq.elim (fun h => .args1 h) (fun ⟨t, n, h1, h2⟩ => .args2 (r1 := (t, n)) h1 h2), Ip.Mw.off (Ip.Mw.t (Ip.Mv.wide (.below HB.out) _) hm) (Nat.le_succ _)⟩⟩
  have HH : Hid (Ip.AOut b tp tc ts sz s w0 (.returned sv) w1) := hide (.inl ⟨t, n, sv, l, rfl, by have := Pr.Cv.args (r1 := (t, n)) hf; rw [Pr.need_go he] at this; exact this, hb, ho, hge, hd, Ip.Mw.off (Ip.Mw.t (Ip.Mv.wide (.below HB.out) _) hm) (Nat.le_succ _), hr.low HB.out.size, hn⟩)
  clear hf ho hd hm hr Q
  go_wp2
  go_ret
  exact HH.out
end Go.Proofs.YtfjoecbkagedbaaGreatDoor
namespace Go.Proofs.YtfjoecbkagedbaaGreatDoor
open Go.RowKit
theorem ent_expression (a : Array Value) (w : World) : Sem.run Tryz.prog (callFunc 65 a) w = .ok (.enter 65 a) w := by
  simp only [callFunc, Sem.run_bind, run_program, Result.andThen_ok, Tryz.func65, show (Tryz.f65.name == "runtime.NumGoroutine") = false by kernel_rfl, show Tryz.f65.body.isNone = false by kernel_rfl]; rfl
/-- A part is put behind the others of a slice; blocks below B stay. -/
theorem wp_pushB {ops : Array Oper} {rest : List Oper} {o : Oper} {a : Act} {w : World} {Q : Exit → Act → World → Prop} (hgd : o.guard = none) (s x : Operand) (ho : o.op = .call { callee := .builtin .append, args := #[s, x], argTypes := #[75, 75] })
    (lo lo' n B : Nat) (sv v : Value) (l la : List Tr.Nd) (hr : Ip.Row lo w sv n l) (hv : Ip.Pt lo' w v la) (hll : lo ≤ lo') (hlw : lo ≤ w.heap.size) (hap : ∀ q, sv.ownBlock = some q → q < lo' ∧ B ≤ q) (hBw : B ≤ w.heap.size) (hn : n ≤ 2000000) (hs : a.eval s = sv) (hx : a.eval x = .slice (some ⟨w.heap.size, 0, none⟩) 1 1)
    (h : ∀ v' w', Ip.Row lo w' v' (n + 1) (l ++ la) → Below B w w' → wpList Tryz.prog ops Q rest (a.put o.dst v') w') : wpList Tryz.prog ops Q (o :: rest) a (w.alloc (.cells #[v] 46)) := by
  obtain ⟨iN, hN, hNz, hNs, hNb⟩ := info_parts Tryz.infoPart
  have hlt := fun q e => hr.lt (q := q) e
  obtain ⟨xs, m, h1, h2⟩ := hr
  obtain ⟨k, hv⟩ := hv
  have hsz : (w.alloc (.cells #[v] 46)).heap.size = w.heap.size + 1 := by simp
  have ha : ∀ q, q < w.heap.size → (w.alloc (.cells #[v] 46)).heap[q]? = w.heap[q]? := fun q hq => Below.heap_alloc w _ q hq
  have h1' : (w.alloc (.cells #[v] 46)).ownsRow lo 46 1 sv n xs := row_own h1 (fun q e => (hlt q e).1) (fun q e => ha q (hlt q e).2)
  refine wpList_append_own_at _ hgd s x 75 ho lo 46 iN _ 1 16 Tryz.underlying75 hN hNz hNs hNb rfl (by decide) sv n xs hs h1' ⟨w.heap.size, 0, none⟩ 1 1 [v] hx rfl (cell_litI w v _ _ rfl) (by intro u hu; simp only [List.mem_cons, List.not_mem_nil, or_false] at hu; rw [hu]; exact hv.one) (by unfold maxLen; omega) (by omega) (by rw [hsz]; omega) ?_
  intro v' w' r1 r2 _ r4
  refine h v' w' (Ip.Row.push (w := w.alloc (.cells #[v] 46)) (sv := sv) (m := m) (k := k) (h2.mono (fun _ _ e => e.go (fun q z => ⟨z.1, by rw [hsz]; omega, z.2.2⟩) (fun q z => ha q z.2.1))) (hv.go (fun q z => ⟨Nat.le_trans hll z.1, by rw [hsz]; omega, fun e => by have := (hap q e).1; omega⟩) (fun q z => ha q z.2)) r1 r2 r4) ?_
  refine ⟨r2.os, r2.tape, r2.output, ?_, fun q hq => (r2.block q (by rw [hsz]; omega) (fun e => ?_)).trans (ha q (by omega))⟩
  · have := r2.size; rw [hsz] at this; omega
  · have := (hap q e.symm).2; omega
/-- What a list with for comes to: its first part has been read before. -/
def Ip.EOut (b : Nat) (tp : Option Addr) (tc : Nat) (ts : List Sc.T) (sz lo : Nat) (c : Pr.Cmd) (s : Pr.Dk) (w : World) (e : Ending) (w' : World) : Prop :=
  (∃ (r : Pr.Dk × Nat) (v : Value) (l : List Tr.Nd), e = .returned v ∧ Pr.Cv ts sz c s r ∧ r.1.bad = false ∧ r.1.out = s.out ++ l ∧ IP b tp tc ts sz r.1.p w' ∧ Ip.Mv b w w' ∧ Ip.Pt lo w' v l) ∨
  (∃ q, e = .panicked (Ip.stuck q) ∧ Pr.Ends ts sz c s q ∧ Ip.Mv b w w')
set_option maxRecDepth 100000 in
set_option maxHeartbeats 4000000 in
theorem ieach_any {b tc sz m lo : Nat} {tp : Option Addr} {ts : List Sc.T} {s : Pr.Dk} {r0 : Pr.Dk × Nat} {l0 : List Tr.Nd} {t0 : TypeId} {u0 : Value} (h0 : Pr.is ts sz s [93] = false) (hc0 : Pr.Cv ts sz .e s r0) (hb0 : r0.1.bad = false) (ho0 : r0.1.out = s.out ++ l0) (hfor : Pr.is ts sz r0.1 Pr.sFor = true) (hm0 : m ≤ (Pr.adv r0.1).p) (ihE : ∀ q : Pr.Dk, m ≤ q.p → q.p ≤ ts.length → q.bad = false → Ip.DE b tp tc ts sz q) (hlt : b < lo) :
    ∀ w0, lo ≤ w0.heap.size → IP b tp tc ts sz (Pr.adv r0.1).p w0 → Ip.Pt lo w0 (.iface t0 u0) l0 → Calls Tryz.prog 133 #[.pointer (some ⟨b, 0, none⟩), .iface t0 u0] w0 (Ip.EOut b tp tc ts sz lo .list s w0) := by
  intro w0 hlw hd0 hp0
  have hmost := hd0.most
  obtain ⟨e2, he2⟩ : ∃ e2 : Pr.Dk, e2 = { Pr.adv r0.1 with out := r0.1.out.take s.out.length } := ⟨_, rfl⟩
  have hbad : e2.bad = false := by rw [he2]; exact hb0
  have HD0 := hide (show IP b tp tc ts sz e2.p w0 by rw [he2]; exact hd0)
  have HO2e := hide (show e2.out = r0.1.out.take s.out.length by rw [he2])
  have HE2 := hide he2
  have HM0 := hide (Ip.Mv.refl b w0)
  have HG0 := hide (show m ≤ e2.p by rw [he2]; exact hm0)
  have HP0_0 := hide hp0
  have HC0 := hide hc0
  have HSo := hide (show r0.1.out.take s.out.length = s.out by rw [ho0]; simp)
  have HSd := hide (show r0.1.out.drop s.out.length = l0 by rw [ho0]; simp)
  clear hd0 hp0 hc0 ho0 he2
  go_enter Tryz.func133, Tryz.ntmps133
  cases hk1 : ((Pr.tok ts sz (e2)).kind == 1)
  case false =>
    have hB := Pr.Bd.name_of (ts := ts) (sz := sz) (s := e2) hbad (by rw [Pr.isName_of hbad]; exact hk1)
    have HE := hide (show Pr.Ends ts sz .list s (Pr.tok ts sz (e2)).place from .for1 h0 HC0.out hfor (by rw [← HE2.out]; exact (hB.need _).e))
    have Q := hide (itakeN (s := e2) HD0.out 1 (by simpa using hk1))
    clear hB
    go_wp2_with fail
    refine Q.out.mono ?_
    rintro e w1 ⟨rfl, hm⟩
    exact ⟨rfl, .inr ⟨_, rfl, HE.out, HM0.out.t hm⟩⟩
  have hn1 : Pr.isName ts sz (e2) = true := by rw [Pr.isName_of hbad]; exact hk1
  have Q := hide (itakeY (s := e2) HD0.out 1 (by decide) (by simpa using hk1))
  go_wp2_with fail
  refine Q.out.mono ?_
  rintro e w1 ⟨rfl, hd, hm⟩
  have HD1 := hide (show IP b tp tc ts sz (Pr.adv (e2)).p w1 from hd)
  have HM1 := hide (HM0.out.t hm)
  have HG1 := hide (show m ≤ (Pr.adv (e2)).p from Nat.le_succ_of_le HG0.out)
  have HP0_1 := hide (HP0_0.out.mv hm hlt (Nat.le_refl _))
  clear HP0_0
  clear hd hm Q
  have hf1 := tokField1 (Pr.tok ts sz (e2)).kind (Pr.tok ts sz (e2)).n (Pr.tok ts sz (e2)).place ⟨(Pr.tok ts sz (e2)).text.toArray⟩
  unfold Pr.tokV
  cases hw2 : Pr.is ts sz (Pr.adv (e2)) Pr.sIn
  case false =>
    have hB := Pr.Bd.need_of (ts := ts) (sz := sz) (s := Pr.adv (e2)) hbad hw2
    have HE := hide (show Pr.Ends ts sz .list s (Pr.tok ts sz (Pr.adv (e2))).place from .for1 h0 HC0.out hfor (by rw [← HE2.out, Pr.name_go hn1]; exact hB.e))
    have Q := hide (wantN (s := Pr.adv (e2)) HD1.out hbad Pr.sIn #[105, 110] rfl hw2)
    clear hB
    go_wp2_with fail
    refine Q.out.mono ?_
    rintro e w2 ⟨rfl, hm⟩
    exact ⟨rfl, .inr ⟨_, rfl, HE.out, HM1.out.t hm⟩⟩
  have Q := hide (wantY (s := Pr.adv (e2)) HD1.out Pr.sIn #[105, 110] rfl hw2)
  go_wp2_with fail
  refine Q.out.mono ?_
  rintro e w2 ⟨rfl, hd, hm⟩
  have HD2 := hide (show IP b tp tc ts sz (Pr.adv (Pr.adv (e2))).p w2 from hd)
  have HM2 := hide (HM1.out.t hm)
  have HG2 := hide (show m ≤ (Pr.adv (Pr.adv (e2))).p from Nat.le_succ_of_le HG1.out)
  have HP0_2 := hide (HP0_1.out.mv hm hlt (Nat.le_refl _))
  clear HP0_1
  clear hd hm Q
  have HX := hide (show Pr.need ts sz (Pr.name ts sz e2) Pr.sIn = Pr.adv (Pr.adv e2) by rw [Pr.name_go hn1, Pr.need_go hw2])
  have Q := hide (ihE (Pr.adv (Pr.adv (e2))) HG2.out HD2.out.le hbad _ HD2.out)
  go_wp2_with fail
  refine Q.out.mono ?_
  rintro e w3 (⟨r1, v1, l1, rfl, hc, hb1, ho, hd, hm, hp⟩ | ⟨q, rfl, hq, hm⟩)
  rotate_left
  · exact ⟨rfl, .inr ⟨_, rfl, .for1 h0 HC0.out hfor (by rw [← HE2.out, HX.out]; exact hq), HM2.out.t hm⟩⟩
  obtain ⟨t1, u1, rfl⟩ := hp.iface
  have HC1 := hide hc
  have HO1 := hide ho
  have HPn := hide (hp.low (Nat.le_trans hlw HM2.out.size))
  clear ho hp
  have HD3 := hide (show IP b tp tc ts sz (r1.1).p w3 from hd)
  have HM3 := hide (HM2.out.t hm)
  have HG3 := hide (show m ≤ (r1.1).p from Nat.le_trans HG2.out (hc.stp HD2.out.le).ge)
  have HP0_3 := hide (HP0_2.out.mv hm hlt (Nat.le_refl _))
  clear HP0_2
  clear hd hm Q
  clear hc
  have HP1_3 := hide HPn.out
  clear HPn
  obtain ⟨e4, he4⟩ : ∃ e4 : Pr.Dk, e4 = { r1.1 with out := r1.1.out ++ r0.1.out.drop s.out.length } := ⟨_, rfl⟩
  have HP4 := hide (show e4.p = r1.1.p by rw [he4])
  have hr : Ip.Row lo (w3.alloc (.cells #[.iface t1 u1, .iface t0 u0] 46)) (.slice (some ⟨w3.heap.size, 0, none⟩) 2 2) 2 (l1 ++ l0) := (Ip.some2 HP1_3.out HP0_3.out).row (Nat.le_trans hlw HM3.out.size) (by simp)
  have hbb := below_new w3 (.cells #[.iface t1 u1, .iface t0 u0] 46)
  have hz3 : (w3.alloc (.cells #[.iface t1 u1, .iface t0 u0] 46)).heap.size = w3.heap.size + 1 := by simp
  have HDb := hide (show IP b tp tc ts sz e4.p (w3.alloc (.cells #[.iface t1 u1, .iface t0 u0] 46)) by rw [HP4.out]; exact HD3.out.below hbb)
  have HMb := hide (HM3.out.more hbb)
  have HRb := hide hr
  have hs3 := HM3.out.size
  have HC1f := hide (show Pr.Cv ts sz .e (Pr.need ts sz (Pr.name ts sz { Pr.adv r0.1 with out := r0.1.out.take s.out.length }) Pr.sIn) r1 by rw [← HE2.out, HX.out]; exact HC1.out)
  clear hr hbb HP1_3 HP0_3 HC1
  have hb4 : e4.bad = false := by rw [he4]; exact hb1
  have HO4 := hide (show e4.out = r1.1.out ++ r0.1.out.drop s.out.length by rw [he4])
  have HE4 := hide he4
  clear he4
  cases hif : Pr.is ts sz e4 Pr.sIf
  case false =>
    have Q := hide (skipN (s := e4) HDb.out hb4 Pr.sIf #[105, 102] rfl hif)
    go_wp2_with fail
    refine Q.out.mono ?_
    rintro e w4 ⟨rfl, hd, hb⟩
    have HD4 := hide hd
    have HM4 := hide (HMb.out.more hb)
    have HR1_4 := hide (HRb.out.below hb)
    have HG4 := hide (show m ≤ e4.p by rw [HP4.out]; exact HG3.out)
    clear hd hb Q
    cases hw5 : Pr.is ts sz (e4) [93]
    case false =>
      have hB := Pr.Bd.need_of (ts := ts) (sz := sz) (s := e4) hb4 hw5
      have HE := hide (show Pr.Ends ts sz .list s (Pr.tok ts sz (e4)).place from .for2 h0 HC0.out hfor HC1f.out (by rw [← HE4.out]; exact hif) (by rw [← HE4.out]; exact hB))
      have Q := hide (wantN (s := e4) HD4.out hb4 [93] #[93] rfl hw5)
      clear hB
      go_wp2_with fail
      refine Q.out.mono ?_
      rintro e w5 ⟨rfl, hm⟩
      exact ⟨rfl, .inr ⟨_, rfl, HE.out, HM4.out.t hm⟩⟩
    have Q := hide (wantY (s := e4) HD4.out [93] #[93] rfl hw5)
    go_wp2_with fail
    refine Q.out.mono ?_
    rintro e w5 ⟨rfl, hd, hm⟩
    have HD5 := hide (show IP b tp tc ts sz (Pr.adv (e4)).p w5 from hd)
    have HM5 := hide (HM4.out.t hm)
    have HG5 := hide (show m ≤ (Pr.adv (e4)).p from Nat.le_succ_of_le HG4.out)
    have HR1_5 := hide (HR1_4.out.mv hm hlt (Nat.le_refl _))
    clear HR1_4
    clear hd hm Q
    have Q := hide (newPart_any 16 0 0 0 ⟨(Pr.tok ts sz e2).text.toArray⟩ (some ⟨w3.heap.size, 0, none⟩) 2 2 w5)
    go_wp2_with fail
    refine Q.out.mono ?_
    rintro e w6 ⟨rfl, hb⟩
    have HPm := hide ((HR1_5.out.below hb).made (x := ⟨16, 0, 0, ⟨(Pr.tok ts sz e2).text.toArray⟩, (2 : Nat)⟩) rfl)
    have HD6 := hide (HD5.out.below hb)
    have HM6 := hide (HM5.out.more hb)
    clear hb Q
    have HY := hide (show Pr.need ts sz e4 [93] = Pr.adv e4 from Pr.need_go hw5)
    go_wp2
    go_ret
    exact .inl ⟨(Pr.put (Pr.need ts sz e4 [93]) 16 0 0 (Pr.nameT ts sz e2) 2, 0), _, _, rfl, by rw [HE4.out, HE2.out]; exact .list_for h0 hfor (by rw [← HE4.out]; exact hif) HC0.out HC1f.out, by rw [HY.out]; exact hb4, by rw [HY.out]; simp [Pr.put, HO4.out, HO1.out, HO2e.out, HSo.out, HSd.out, Pr.nameT_go hn1], by rw [HY.out]; exact HD6.out, HM6.out, HPm.out⟩
  have Q := hide (skipY (s := e4) HDb.out Pr.sIf #[105, 102] rfl hif)
  go_wp2_with fail
  refine Q.out.mono ?_
  rintro e w4 ⟨rfl, hd, hm⟩
  have HD4 := hide hd
  have HM4 := hide (HMb.out.t hm)
  have HR1_4 := hide (HRb.out.mv hm hlt (Nat.le_refl _))
  have HG4 := hide (show m ≤ (Pr.adv e4).p from Nat.le_succ_of_le (by rw [HP4.out]; exact HG3.out))
  have hs4 := hm.size
  rw [hz3] at hs4
  have HA := hide (show ∀ q, (Value.slice (some ⟨w3.heap.size, 0, none⟩) 2 2).ownBlock = some q → q < w4.heap.size ∧ w0.heap.size ≤ q from fun q e => by cases e; exact ⟨hs4, hs3⟩)
  clear hd hm Q
  have Q := hide (ihE (Pr.adv e4) HG4.out HD4.out.le hb4 _ HD4.out)
  go_wp2_with fail
  refine Q.out.mono ?_
  rintro e w5 (⟨r2, v2, l2, rfl, hc, hb2, ho, hd, hm, hp⟩ | ⟨q, rfl, hq, hm⟩)
  rotate_left
  · exact ⟨rfl, .inr ⟨_, rfl, .for4 h0 HC0.out hfor HC1f.out (by rw [← HE4.out]; exact hif) (by rw [← HE4.out]; exact hq), HM4.out.t hm⟩⟩
  obtain ⟨t2, u2, rfl⟩ := hp.iface
  have HC2 := hide hc
  have HO2 := hide ho
  have HPn := hide (hp.low (Nat.le_trans hlw HM4.out.size))
  have HPraw := hide hp
  clear ho hp
  have HD5 := hide (show IP b tp tc ts sz (r2.1).p w5 from hd)
  have HM5 := hide (HM4.out.t hm)
  have HG5 := hide (show m ≤ (r2.1).p from Nat.le_trans HG4.out (hc.stp HD4.out.le).ge)
  have HR1_5 := hide (HR1_4.out.mv hm hlt (Nat.le_refl _))
  clear HR1_4
  clear hd hm Q
  clear hc
  have HP2_5 := hide HPn.out
  clear HPn
  go_wp2_with (at_builtin; refine wp_pushB rfl _ _ rfl lo w4.heap.size 2 w0.heap.size (.slice (some ⟨w3.heap.size, 0, none⟩) 2 2) (.iface t2 u2) (l1 ++ l0) l2 HR1_5.out HPraw.out (Nat.le_trans hlw HM4.out.size) (Nat.le_trans hlw HM5.out.size) HA.out HM5.out.size (by omega) rfl rfl ?_)
  intro v w6 hr hb
  obtain ⟨sq, sd, rfl⟩ := hr.form
  have HS_6 := hide hr
  have HD6 := hide (HD5.out.fresh hb (by omega))
  have HM6 := hide (HM5.out.fresh hb (Nat.le_refl _))
  have HG6 := hide HG5.out
  clear hr hb HR1_5 HP2_5 HPraw HA
  cases hw7 : Pr.is ts sz (r2.1) [93]
  case false =>
    have hB := Pr.Bd.need_of (ts := ts) (sz := sz) (s := r2.1) hb2 hw7
    have HE := hide (show Pr.Ends ts sz .list s (Pr.tok ts sz (r2.1)).place from .for3 h0 HC0.out hfor HC1f.out (by rw [← HE4.out]; exact hif) (by rw [← HE4.out]; exact HC2.out) hB)
    have Q := hide (wantN (s := r2.1) HD6.out hb2 [93] #[93] rfl hw7)
    clear hB
    go_wp2_with fail
    refine Q.out.mono ?_
    rintro e w7 ⟨rfl, hm⟩
    exact ⟨rfl, .inr ⟨_, rfl, HE.out, HM6.out.t hm⟩⟩
  have Q := hide (wantY (s := r2.1) HD6.out [93] #[93] rfl hw7)
  go_wp2_with fail
  refine Q.out.mono ?_
  rintro e w7 ⟨rfl, hd, hm⟩
  have HD7 := hide (show IP b tp tc ts sz (Pr.adv (r2.1)).p w7 from hd)
  have HM7 := hide (HM6.out.t hm)
  have HG7 := hide (show m ≤ (Pr.adv (r2.1)).p from Nat.le_succ_of_le HG6.out)
  have HS_7 := hide (HS_6.out.mv hm hlt (Nat.le_refl _))
  clear HS_6
  clear hd hm Q
  have Q := hide (newPart_any 16 0 0 0 ⟨(Pr.tok ts sz e2).text.toArray⟩ sq 3 sd w7)
  go_wp2_with fail
  refine Q.out.mono ?_
  rintro e w8 ⟨rfl, hb⟩
  have HPm := hide ((HS_7.out.below hb).made (x := ⟨16, 0, 0, ⟨(Pr.tok ts sz e2).text.toArray⟩, (3 : Nat)⟩) rfl)
  have HD8 := hide (HD7.out.below hb)
  have HM8 := hide (HM7.out.more hb)
  clear hb Q
  have HY := hide (show Pr.need ts sz r2.1 [93] = Pr.adv r2.1 from Pr.need_go hw7)
  go_wp2
  go_ret
  exact .inl ⟨(Pr.put (Pr.need ts sz r2.1 [93]) 16 0 0 (Pr.nameT ts sz e2) 3, 0), _, _, rfl, by rw [HE2.out]; exact .list_forIf h0 hfor (by rw [← HE4.out]; exact hif) HC0.out HC1f.out (by rw [← HE4.out]; exact HC2.out), by rw [HY.out]; exact hb2, by rw [HY.out]; simp [Pr.put, HO2.out, HO4.out, HO1.out, HO2e.out, HSo.out, HSd.out, Pr.nameT_go hn1], by rw [HY.out]; exact HD8.out, HM8.out, HPm.out⟩

end Go.Proofs.YtfjoecbkagedbaaGreatDoor
namespace Go.Proofs.YtfjoecbkagedbaaGreatDoor
open Go.RowKit
theorem exprs_any {b tc sz m : Nat} {tp : Option Addr} {ts : List Sc.T} (ihE : ∀ q : Pr.Dk, m ≤ q.p → q.p ≤ ts.length → q.bad = false → Ip.DE b tp tc ts sz q) :
    Ip.Items b tp tc ts sz b 0 m (fun _ _ => True) (fun i _ s t n => ∃ r1 : Pr.Dk × Nat, Pr.Cv ts sz .e s r1 ∧ r1.1.bad = false ∧ Pr.Cv ts sz (.listL (i + 1)) r1.1 (t, n) ∧ i + 1 ≤ n ∧ (n = i + 1 → t = r1.1) ∧ (n ≠ i + 1 → Pr.is ts sz r1.1 [44] = true)) (fun i _ s q => Pr.Ends ts sz .e s q ∨ ∃ r1 : Pr.Dk × Nat, Pr.Cv ts sz .e s r1 ∧ Pr.is ts sz r1.1 [44] = true ∧ Pr.Ends ts sz (.listL (i + 1)) r1.1 q) (fun _ => false) 65 (#[.pointer (some ⟨b, 0, none⟩)] ++ #[]) := by
  intro i f s _ hm hle hb w _ hd _
  refine (ihE s hm hle hb w hd).mono ?_
  rintro e w' (⟨r, v, l, rfl, hc, hb1, ho, hd1, hm1, hp⟩ | ⟨q, rfl, hq, hm1⟩)
  · refine .inl ⟨r.1, f, v, l, rfl, hb1, ho, (hc.stp hle).ge, hd1, hm1.wide b, hp, trivial, fun hc4 => ⟨?_, ?_⟩, fun hc4 => ⟨r, hc, hb1, .listL_end hc4, Nat.le_refl _, fun _ => rfl, fun h => absurd rfl h⟩⟩
    · rintro u n ⟨r2, k1, _, k3, k4, _, _⟩
      exact ⟨r, hc, hb1, .listL_go hc4 k1 k3, by omega, fun h => by omega, fun _ => hc4⟩
    · rintro q (h | ⟨r2, k1, k2, k3⟩)
      · exact .inr ⟨r, hc, hc4, .listL1 hc4 h⟩
      · exact .inr ⟨r, hc, hc4, .listL2 hc4 k1 k3⟩
  · exact .inr ⟨q, rfl, .inl hq, hm1.wide b⟩
theorem Ip.Row.head {lo : Nat} {w : World} {sv : Value} {l : List Tr.Nd} (h : Ip.Row lo w sv 1 l) : ∃ g c t u, sv = .slice (some ⟨g, 0, none⟩) 1 c ∧ w.cell? ⟨g, 0, none⟩ = some (.iface t u) ∧ Ip.Pt lo w (.iface t u) l := by
  obtain ⟨xs, m, h1, h2⟩ := h
  obtain ⟨hl, h1⟩ := h1
  obtain ⟨x, rfl⟩ : ∃ x, xs = [x] := by
    cases xs with
    | nil => simp at hl
    | cons x r => cases r with
      | nil => exact ⟨x, rfl⟩
      | cons _ _ => simp at hl
  obtain ⟨a, r, k1, k2, k3⟩ := h2
  have k2 : r = [] := k2
  subst k2
  have hp : Ip.Pt lo w x l := ⟨m, by rw [k3, List.append_nil]; exact k1.go (fun q e => ⟨e.1, e.2.1⟩) (fun _ _ => rfl)⟩
  obtain ⟨t, u, rfl⟩ := hp.iface
  rcases h1 with ⟨_, h⟩ | ⟨g, cap, cur, hv, _, hg, _, _, hsz, ht⟩
  · simp at h
  · refine ⟨g, cap, t, u, hv, ?_, hp⟩
    simp only [World.cell?, hg]
    have h0 : (cur.toList.take (1 * 1))[0]? = some (.iface t u) := by rw [ht]; rfl
    rw [List.getElem?_take] at h0
    simpa using h0
theorem Ip.EOut.rebase {b tc sz : Nat} {tp : Option Addr} {ts : List Sc.T} {c : Pr.Cmd} {s : Pr.Dk} {w0 w w' : World} {e : Ending} (h : Ip.EOut b tp tc ts sz w0.heap.size c s w e w') (hm : Ip.Mv b w0 w) : Ip.Out b tp tc ts sz c s w0 e w' := by
  rcases h with ⟨r, v, l, h1, h2, h3, h4, h5, h6, h7⟩ | ⟨q, h1, h2, h3⟩
  · exact .inl ⟨r, v, l, h1, h2, h3, h4, h5, hm.t h6, h7⟩
  · exact .inr ⟨q, h1, h2, hm.t h3⟩
set_option maxRecDepth 100000 in
set_option maxHeartbeats 2000000 in
theorem ilist_any {b tc sz m : Nat} {tp : Option Addr} {ts : List Sc.T} {s : Pr.Dk} (hbad : s.bad = false) (hm0 : m ≤ s.p) (ihE : ∀ q : Pr.Dk, m ≤ q.p → q.p ≤ ts.length → q.bad = false → Ip.DE b tp tc ts sz q) :
    Ip.Does b tp tc ts sz 127 #[.pointer (some ⟨b, 0, none⟩)] .list s (s) := by
  intro w0 hd0
  have hlt := hd0.lt
  have hmost := hd0.most
  have HD0 := hide hd0
  have HM0 := hide (Ip.Mv.refl b w0)
  have HG0 := hide (show m ≤ (s).p from hm0)
  have hmf : ∀ (fn : Fn) (first cap : Array Value) (w : World), (Instr.makeFunc fn first cap).run Tryz.prog w = .ok (.func fn first cap) w := fun _ _ _ _ => rfl
  clear hd0
  go_enter Tryz.func127, Tryz.ntmps127
  cases h0 : Pr.is ts sz s [93]
  case true =>
    have Q := hide (skipY (s := s) HD0.out [93] #[93] rfl h0)
    go_wp2_with fail
    refine Q.out.mono ?_
    rintro e w1 ⟨rfl, hd, hm⟩
    have HD1 := hide (show IP b tp tc ts sz (Pr.adv (s)).p w1 from hd)
    have HM1 := hide (HM0.out.t hm)
    have HG1 := hide (show m ≤ (Pr.adv (s)).p from Nat.le_succ_of_le HG0.out)
    clear hd hm Q
    have Q := hide (newPart_any 8 0 0 0 ⟨#[]⟩ none 0 0 w1)
    go_wp2_with fail
    refine Q.out.mono ?_
    rintro e w2 ⟨rfl, hb⟩
    have HPm := hide ((Ip.Row.nil w0.heap.size w2).made (x := ⟨8, 0, 0, ⟨#[]⟩, 0⟩) rfl)
    have hbb := hb
    have HD2 := hide (HD1.out.below hbb)
    have HM2 := hide (HM1.out.more hbb)
    clear hb hbb Q
    go_wp2
    go_ret
    exact .inl ⟨(Pr.put (Pr.adv s) 8 0 0 [] 0, 0), _, _, rfl, .list_nil h0, hbad, by simp [Pr.put], HD2.out, HM2.out, HPm.out⟩
  have Q := hide (skipN (s := s) HD0.out hbad [93] #[93] rfl h0)
  go_wp2_with fail
  refine Q.out.mono ?_
  rintro e w1 ⟨rfl, hd, hb⟩
  have hm : Ip.Mv b w0 w1 := .below hb
  clear hb
  have HD1 := hide (show IP b tp tc ts sz (s).p w1 from hd)
  have HM1 := hide (HM0.out.t hm)
  have HG1 := hide (show m ≤ (s).p from HG0.out)
  clear hd hm Q
  have Q := hide (some_any (lo := w0.heap.size) (nb := b) (f := false) (g := fun _ => false) (m := m) (fst := #[.pointer (some ⟨b, 0, none⟩)]) (cap := #[]) (Ip.keeps_true b _) ((exprs_any (b := b) (tp := tp) (tc := tc) (ts := ts) (sz := sz) (m := m) ihE).up (Nat.zero_le _)) hlt (ent_expression _) rfl HG1.out hbad HM1.out.size HD1.out trivial)
  go_wp2_with fail
  refine Q.out.mono ?_
  rintro e w2 (⟨d1, n1, sv, l1, rfl, hf, hb1, hx1, ho, hge, hd, hm, hr, ho1s, hn1s⟩ | ⟨q, rfl, hq, hm⟩)
  rotate_left
  · exact ⟨rfl, .inr ⟨_, rfl, hq.elim (fun h => .list1 h0 h) (fun ⟨r, h1, h2, h3⟩ => .list2 h0 h1 (Pr.is_not h2 (by decide)) h3), HM1.out.t hm.one⟩⟩
  obtain ⟨sp1, sc1, rfl⟩ := hr.form
  have HF1 := hide hf
  have HO1 := hide ho
  have HRn := hide (hr.low HM1.out.size)
  have hm1 := hm.one
  clear ho hr hf hm
  have HD2 := hide (show IP b tp tc ts sz (d1).p w2 from hd)
  have HM2 := hide (HM1.out.t hm1)
  have HG2 := hide (show m ≤ (d1).p from Nat.le_trans HG1.out hge)
  clear hd hm1 Q
  have HR1_2 := hide HRn.out
  clear HRn hge
  obtain ⟨r0, hc0, hb0, hcl, hn1, hone, hmore⟩ := HF1.out
  have HC0 := hide hc0
  have HCL := hide hcl
  have HL1 := hide HD2.out.le
  clear HF1 hc0 hcl
  by_cases hnn : n1 = 1
  rotate_left
  · have h1 : Pr.is ts sz r0.1 Pr.sFor = false := Pr.is_not (hmore hnn) (by decide)
    have hnb : ((n1 : Int) == 1) = false := by simp; omega
    have hni : ¬ (n1 : Int) = 1 := by omega
    cases hw3 : Pr.is ts sz (d1) [93]
    case false =>
      have hB := Pr.Bd.need_of (ts := ts) (sz := sz) (s := d1) hb1 hw3
      have HE := hide (show Pr.Ends ts sz .list s (Pr.tok ts sz (d1)).place from .list3 (r2 := (d1, n1)) h0 HC0.out h1 HCL.out hB)
      have Q := hide (wantN (s := d1) HD2.out hb1 [93] #[93] rfl hw3)
      clear hB
      go_wp2_with fail
      refine Q.out.mono ?_
      rintro e w3 ⟨rfl, hm⟩
      exact ⟨rfl, .inr ⟨_, rfl, HE.out, HM2.out.t hm⟩⟩
    have Q := hide (wantY (s := d1) HD2.out [93] #[93] rfl hw3)
    go_wp2_with fail
    refine Q.out.mono ?_
    rintro e w3 ⟨rfl, hd, hm⟩
    have HD3 := hide (show IP b tp tc ts sz (Pr.adv (d1)).p w3 from hd)
    have HM3 := hide (HM2.out.t hm)
    have HG3 := hide (show m ≤ (Pr.adv (d1)).p from Nat.le_succ_of_le HG2.out)
    have HR1_3 := hide (HR1_2.out.mv hm hlt (Nat.le_refl _))
    clear HR1_2
    clear hd hm Q
    have Q := hide (newPart_any 8 0 0 0 ⟨#[]⟩ sp1 n1 sc1 w3)
    go_wp2_with fail
    refine Q.out.mono ?_
    rintro e w4 ⟨rfl, hb⟩
    have HPm := hide ((HR1_3.out.below hb).made (x := ⟨8, 0, 0, ⟨#[]⟩, (n1 : Nat)⟩) rfl)
    have HD4 := hide (HD3.out.below hb)
    have HM4 := hide (HM3.out.more hb)
    clear hb Q
    have HY := hide (show Pr.need ts sz d1 [93] = Pr.adv d1 from Pr.need_go hw3)
    go_wp2
    go_ret
    exact .inl ⟨(Pr.put (Pr.need ts sz d1 [93]) 8 0 0 [] n1, 0), _, _, rfl, .list_list (r2 := (d1, n1)) h0 h1 HC0.out HCL.out, by rw [HY.out]; exact hb1, by rw [HY.out]; simp [Pr.put, HO1.out], by rw [HY.out]; exact HD4.out, HM4.out, HPm.out⟩
  subst hnn
  obtain rfl := hone rfl
  cases hfor : Pr.is ts sz r0.1 Pr.sFor
  case false =>
    have h1 := hfor
    have Q := hide (skipN (s := r0.1) HD2.out hb1 Pr.sFor #[102, 111, 114] rfl hfor)
    go_wp2_with fail
    refine Q.out.mono ?_
    rintro e w3 ⟨rfl, hd, hb⟩
    have hm : Ip.Mv b w2 w3 := .below hb
    clear hb
    have HD3 := hide (show IP b tp tc ts sz (r0.1).p w3 from hd)
    have HM3 := hide (HM2.out.t hm)
    have HG3 := hide (show m ≤ (r0.1).p from HG2.out)
    have HR1_3 := hide (HR1_2.out.mv hm hlt (Nat.le_refl _))
    clear HR1_2
    clear hd hm Q
    cases hw4 : Pr.is ts sz (r0.1) [93]
    case false =>
      have hB := Pr.Bd.need_of (ts := ts) (sz := sz) (s := r0.1) hb1 hw4
      have HE := hide (show Pr.Ends ts sz .list s (Pr.tok ts sz (r0.1)).place from .list3 (r2 := (r0.1, 1)) h0 HC0.out h1 HCL.out hB)
      have Q := hide (wantN (s := r0.1) HD3.out hb1 [93] #[93] rfl hw4)
      clear hB
      go_wp2_with fail
      refine Q.out.mono ?_
      rintro e w4 ⟨rfl, hm⟩
      exact ⟨rfl, .inr ⟨_, rfl, HE.out, HM3.out.t hm⟩⟩
    have Q := hide (wantY (s := r0.1) HD3.out [93] #[93] rfl hw4)
    go_wp2_with fail
    refine Q.out.mono ?_
    rintro e w4 ⟨rfl, hd, hm⟩
    have HD4 := hide (show IP b tp tc ts sz (Pr.adv (r0.1)).p w4 from hd)
    have HM4 := hide (HM3.out.t hm)
    have HG4 := hide (show m ≤ (Pr.adv (r0.1)).p from Nat.le_succ_of_le HG3.out)
    have HR1_4 := hide (HR1_3.out.mv hm hlt (Nat.le_refl _))
    clear HR1_3
    clear hd hm Q
    have Q := hide (newPart_any 8 0 0 0 ⟨#[]⟩ sp1 1 sc1 w4)
    go_wp2_with fail
    refine Q.out.mono ?_
    rintro e w5 ⟨rfl, hb⟩
    have HPm := hide ((HR1_4.out.below hb).made (x := ⟨8, 0, 0, ⟨#[]⟩, (1 : Nat)⟩) rfl)
    have HD5 := hide (HD4.out.below hb)
    have HM5 := hide (HM4.out.more hb)
    clear hb Q
    have HY := hide (show Pr.need ts sz r0.1 [93] = Pr.adv r0.1 from Pr.need_go hw4)
    go_wp2
    go_ret
    exact .inl ⟨(Pr.put (Pr.need ts sz r0.1 [93]) 8 0 0 [] 1, 0), _, _, rfl, .list_list (r2 := (r0.1, 1)) h0 h1 HC0.out HCL.out, by rw [HY.out]; exact hb1, by rw [HY.out]; simp [Pr.put, HO1.out], by rw [HY.out]; exact HD5.out, HM5.out, HPm.out⟩
  have Q := hide (skipY (s := r0.1) HD2.out Pr.sFor #[102, 111, 114] rfl hfor)
  go_wp2_with fail
  refine Q.out.mono ?_
  rintro e w3 ⟨rfl, hd, hm⟩
  have HD3 := hide (show IP b tp tc ts sz (Pr.adv (r0.1)).p w3 from hd)
  have HM3 := hide (HM2.out.t hm)
  have HG3 := hide (show m ≤ (Pr.adv (r0.1)).p from Nat.le_succ_of_le HG2.out)
  have HR1_3 := hide (HR1_2.out.mv hm hlt (Nat.le_refl _))
  clear HR1_2
  clear hd hm Q
  obtain ⟨g3, c3, t3, u3, hv3, hcell, hp3⟩ := HR1_3.out.head
  cases hv3
  have Q := hide (ieach_any (lo := w0.heap.size) h0 HC0.out hb0 HO1.out hfor HG3.out ihE hlt w3 HM3.out.size HD3.out hp3)
  clear hp3
  go_wp2_with fail
  refine Q.out.mono ?_
  rintro e w4 (⟨r1, v1, l1, rfl, hc, hb1, ho, hd, hm, hp⟩ | ⟨q, rfl, hq, hm⟩)
  rotate_left
  · exact ⟨rfl, .inr ⟨_, rfl, hq, HM3.out.t hm⟩⟩
  have HH := hide (Ip.EOut.rebase (e := .returned v1) (.inl ⟨r1, v1, l1, rfl, hc, hb1, ho, hd, hm, hp⟩) HM3.out)
  clear hc ho hd hm hp Q
  go_wp2
  go_ret
  exact HH.out

end Go.Proofs.YtfjoecbkagedbaaGreatDoor
