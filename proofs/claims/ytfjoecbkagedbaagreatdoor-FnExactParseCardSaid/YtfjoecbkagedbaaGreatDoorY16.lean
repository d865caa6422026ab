/- Pz, Pq. -/
import Derived.Test.YtfjoecbkagedbaaGreatDoorY15
import Derived.Test.YtfjoecbkagedbaaGreatDoorY09
namespace Go.Proofs.YtfjoecbkagedbaaGreatDoor
open Go.RowKit
/-- A token's op. -/
def Ip.IsOp (x : Sc.T) (o : Nat) : Prop := (1 ≤ o ∧ o ≤ 14 ∧ Ip.sign x (Pr.mark o) = true) ∨ (o = 0 ∧ ∀ k, 1 ≤ k → k ≤ 14 → Ip.sign x (Pr.mark k) = false)
def Ip.Glob (w : World) : Prop := ∀ o, o ≤ 14 → w.cell? ⟨0, o * 2, none⟩ = some (.string ⟨(Pr.mark o).toArray⟩) ∧ w.cell? ⟨0, o * 2 + 1, none⟩ = some (.int .i64 (Pr.rank o : Nat))
set_option maxRecDepth 100000 in
set_option maxHeartbeats 4000000 in
theorem opOf_any (x : Sc.T) (w : World) (h0 : 0 < w.heap.size) (hG : Ip.Glob w) :
    Calls Tryz.prog 102 #[Pr.tokV x] w fun e w' => ∃ o : Nat, e = .returned (.int .i64 o) ∧ Ip.IsOp x o ∧ Below w.heap.size w w' := by
  have HG := hide hG
  have HB0 := hide (below_new w (.cells #[.int .i64 x.kind, .string ⟨x.text.toArray⟩, .int .i64 x.n, .int .i64 x.place] 54))
  have HX0 := hide (heap_alloc_new w (.cells #[.int .i64 x.kind, .string ⟨x.text.toArray⟩, .int .i64 x.n, .int .i64 x.place] 54))
  clear hG
  unfold Pr.tokV
  go_enter Tryz.func102, Tryz.ntmps102
  go_wp2_with fail
  go_loopw [3] (fun v wr => ∃ o : Nat, 1 ≤ o ∧ o ≤ 15 ∧ v = .int .i64 o ∧ (∀ k, 1 ≤ k → k < o → Ip.sign x (Pr.mark k) = false) ∧ Below w.heap.size w wr ∧ w.heap.size < wr.heap.size ∧ wr.heap[w.heap.size]? = some (.cells #[.int .i64 x.kind, .string ⟨x.text.toArray⟩, .int .i64 x.n, .int .i64 x.place] 54 (0, 0))) (fun v _ => 15 - (intOf v).toNat)
  case atStart => exact ⟨1, Nat.le_refl _, by decide, rfl, fun k h1 h2 => by omega, HB0.out, by simp, HX0.out⟩
  case round =>
    obtain ⟨o, ho1, ho2, rfl, hno, hb, hsz, hx⟩ := hrel
    haveI hne : Nonempty (KB wr) := ⟨⟨_, Below.refl _ _⟩⟩
    have HNO := hide hno
    have HB := hide hb
    have HX := hide hx
    clear hno hb hx HB0 HX0
    by_cases hle : o ≤ 14
    · have hli : (o : Int) ≤ 14 := by omega
      have ho15 : (o : Int) < 15 := by omega
      have ho0 : (0 : Int) ≤ (o : Int) := by omega
      have hgw : ∀ q : KB wr, q.w.cell? ⟨0, o * 2, none⟩ = some (.string ⟨(Pr.mark o).toArray⟩) := fun q => (q.below.cell (p := ⟨0, o * 2, none⟩) (show 0 < wr.heap.size by omega)).trans ((HB.out.cell (p := ⟨0, o * 2, none⟩) (show 0 < w.heap.size by omega)).trans (HG.out o hle).1)
      have hxq : ∀ q : KB wr, q.w.heap[w.heap.size]? = some (.cells #[.int .i64 x.kind, .string ⟨x.text.toArray⟩, .int .i64 x.n, .int .i64 x.place] 54 (0, 0)) := fun q => (q.below.block _ hsz).trans HX.out
      have x0 : ∀ q : KB wr, q.w.cell? ⟨w.heap.size, 0, none⟩ = some (.int .i64 x.kind) := fun q => by simp only [World.cell?, hxq q]; rfl
      have x1 : ∀ q : KB wr, q.w.cell? ⟨w.heap.size, 1, none⟩ = some (.string ⟨x.text.toArray⟩) := fun q => by simp only [World.cell?, hxq q]; rfl
      have x2 : ∀ q : KB wr, q.w.cell? ⟨w.heap.size, 2, none⟩ = some (.int .i64 x.n) := fun q => by simp only [World.cell?, hxq q]; rfl
      have x3 : ∀ q : KB wr, q.w.cell? ⟨w.heap.size, 3, none⟩ = some (.int .i64 x.place) := fun q => by simp only [World.cell?, hxq q]; rfl
      have HI : Hid (∀ w1, Below wr.heap.size wr w1 → Calls Tryz.prog 83 #[.agg #[.int .i64 x.kind, .string ⟨x.text.toArray⟩, .int .i64 x.n, .int .i64 x.place], .string ⟨(Pr.mark o).toArray⟩] w1 fun e w' => e = .returned (.bool (Ip.sign x (Pr.mark o))) ∧ Below w1.heap.size w1 w') := hide (fun w1 _ => by
        have := isign_any x ⟨(Pr.mark o).toArray⟩ w1
        unfold Pr.tokV at this
        simpa using this)
      clear hxq
      go_wp2_with fail
      refine region_class (KB.w (w := wr)) (by kernel_rfl) (by kernel_rfl) ⟨⟨_, below_drewN (Below.refl _ _) _⟩, rfl⟩ ?_
      repeat (go_big_quiet_step ((go_at_call 83; exact kb_call HI.out _)))
      refine wpQuiet_nil ?_
      rintro _ ⟨q, rfl⟩
      have HBq := hide q.below
      cases hs : Ip.sign x (Pr.mark o)
      · go_wp2
        go_roundw
        case rel => exact ⟨o + 1, by omega, by omega, by go_num, fun k h1 h2 => if e : k = o then by rw [e]; exact hs else HNO.out k h1 (by omega), HB.out.trans (HBq.out.mono HB.out.size), Nat.lt_of_lt_of_le hsz HBq.out.size, (HBq.out.block _ hsz).trans HX.out⟩
        case measure => simp [intOf]; omega
      · go_wp2
        go_ret
        exact ⟨o, rfl, .inl ⟨ho1, hle, hs⟩, HB.out.trans (HBq.out.mono HB.out.size)⟩
    · have hli : ¬ (o : Int) ≤ 14 := by omega
      go_wp2
      go_ret
      exact ⟨0, rfl, .inr ⟨rfl, fun k h1 h2 => HNO.out k h1 (by omega)⟩, HB.out⟩
set_option maxRecDepth 100000 in
theorem firstRank_any (r : Nat) (w : World) (hr : r ≤ 100) : Calls Tryz.prog 103 #[.int .i64 r] w fun e w' => e = .returned (.int .i64 (if r = 4 then 5 else r : Nat)) ∧ w' = w := by
  by_cases h : r = 4
  · subst h
    go_enter Tryz.func103, Tryz.ntmps103
    go_wp2
    go_ret
    exact ⟨rfl, rfl⟩
  · have hi : ¬ (r : Int) = 4 := by omega
    rw [if_neg h]
    go_enter Tryz.func103, Tryz.ntmps103
    go_wp2
    go_ret
    exact ⟨rfl, rfl⟩
end Go.Proofs.YtfjoecbkagedbaaGreatDoor
namespace Go.Proofs.YtfjoecbkagedbaaGreatDoor
open Go.RowKit
theorem ent_name (a : Array Value) (w : World) : Sem.run Tryz.prog (callFunc 90 a) w = .ok (.enter 90 a) w := by
  simp only [callFunc, Sem.run_bind, run_program, Result.andThen_ok, Tryz.func90, show (Tryz.f90.name == "runtime.NumGoroutine") = false by kernel_rfl, show Tryz.f90.body.isNone = false by kernel_rfl]; rfl
theorem ent_param (a : Array Value) (w : World) : Sem.run Tryz.prog (callFunc 87 a) w = .ok (.enter 87 a) w := by
  simp only [callFunc, Sem.run_bind, run_program, Result.andThen_ok, Tryz.func87, show (Tryz.f87.name == "runtime.NumGoroutine") = false by kernel_rfl, show Tryz.f87.body.isNone = false by kernel_rfl]; rfl
theorem Ip.keeps_true (b lo : Nat) : Ip.Keeps b lo (fun _ _ => True) := fun _ _ _ _ _ => trivial
theorem Ip.Items.up {b tc sz nb lo lo' m : Nat} {tp : Option Addr} {ts : List Sc.T} {Inv : Bool → World → Prop} {Fin : Nat → Bool → Pr.Dk → Pr.Dk → Nat → Prop} {Bad : Nat → Bool → Pr.Dk → Nat → Prop} {g : Pr.Dk → Bool} {K : Nat} {args : Array Value} (h : Ip.Items b tp tc ts sz nb lo m Inv Fin Bad g K args) (hl : lo ≤ lo') : Ip.Items b tp tc ts sz nb lo' m Inv Fin Bad g K args := fun i f s h1 h2 h3 h4 w h5 => h i f s h1 h2 h3 h4 w (Nat.le_trans hl h5)
set_option maxRecDepth 100000 in
set_option maxHeartbeats 2000000 in
theorem iset_any {b tc sz m : Nat} {tp : Option Addr} {ts : List Sc.T} {s : Pr.Dk} (hi : Pr.is ts sz s Pr.sLet = true) (hm0 : m ≤ (Pr.adv s).p) (ihE : ∀ q : Pr.Dk, m ≤ q.p → q.p ≤ ts.length → q.bad = false → Ip.DE b tp tc ts sz q) :
    Ip.Does b tp tc ts sz 64 #[.pointer (some ⟨b, 0, none⟩)] .statement s (Pr.adv s) := by
  intro w0 hd0
  have hlt := hd0.lt
  have hmost := hd0.most
  have HD0 := hide hd0
  have HM0 := hide (Ip.Mv.refl b w0)
  have HG0 := hide (show m ≤ (Pr.adv s).p from hm0)
  have hbad : (Pr.adv s).bad = false := (Pr.is_fine hi : s.bad = false)
  clear hd0
  go_enter Tryz.func64, Tryz.ntmps64
  cases hk1 : ((Pr.tok ts sz (Pr.adv s)).kind == 1)
  case false =>
    have hB := Pr.Bd.name_of (ts := ts) (sz := sz) (s := Pr.adv s) hbad (by rw [Pr.isName_of hbad]; exact hk1)
    have HE := hide (show Pr.Ends ts sz .statement s (Pr.tok ts sz (Pr.adv s)).place from .set1 hi (hB.need _).e)
    have Q := hide (itakeN (s := Pr.adv s) HD0.out 1 (by simpa using hk1))
    clear hB
    go_wp2_with fail
    refine Q.out.mono ?_
    rintro e w1 ⟨rfl, hm⟩
    exact ⟨rfl, .inr ⟨_, rfl, HE.out, HM0.out.t hm⟩⟩
  have hn1 : Pr.isName ts sz (Pr.adv s) = true := by rw [Pr.isName_of hbad]; exact hk1
  have Q := hide (itakeY (s := Pr.adv s) HD0.out 1 (by decide) (by simpa using hk1))
  go_wp2_with fail
  refine Q.out.mono ?_
  rintro e w1 ⟨rfl, hd, hm⟩
  have HD1 := hide (show IP b tp tc ts sz (Pr.adv (Pr.adv s)).p w1 from hd)
  have HM1 := hide (HM0.out.t hm)
  have HG1 := hide (show m ≤ (Pr.adv (Pr.adv s)).p from Nat.le_succ_of_le HG0.out)
  clear hd hm Q
  have hf1 := tokField1 (Pr.tok ts sz (Pr.adv s)).kind (Pr.tok ts sz (Pr.adv s)).n (Pr.tok ts sz (Pr.adv s)).place ⟨(Pr.tok ts sz (Pr.adv s)).text.toArray⟩
  unfold Pr.tokV
  cases hw2 : Pr.is ts sz (Pr.adv (Pr.adv s)) [61]
  case false =>
    have hB := Pr.Bd.need_of (ts := ts) (sz := sz) (s := Pr.adv (Pr.adv s)) hbad hw2
    have HE := hide (show Pr.Ends ts sz .statement s (Pr.tok ts sz (Pr.adv (Pr.adv s))).place from .set1 hi (by rw [Pr.name_go hn1]; exact hB.e))
    have Q := hide (wantN (s := Pr.adv (Pr.adv s)) HD1.out hbad [61] #[61] rfl hw2)
    clear hB
    go_wp2_with fail
    refine Q.out.mono ?_
    rintro e w2 ⟨rfl, hm⟩
    exact ⟨rfl, .inr ⟨_, rfl, HE.out, HM1.out.t hm⟩⟩
  have Q := hide (wantY (s := Pr.adv (Pr.adv s)) HD1.out [61] #[61] rfl hw2)
  go_wp2_with fail
  refine Q.out.mono ?_
  rintro e w2 ⟨rfl, hd, hm⟩
  have HD2 := hide (show IP b tp tc ts sz (Pr.adv (Pr.adv (Pr.adv s))).p w2 from hd)
  have HM2 := hide (HM1.out.t hm)
  have HG2 := hide (show m ≤ (Pr.adv (Pr.adv (Pr.adv s))).p from Nat.le_succ_of_le HG1.out)
  clear hd hm Q
  have HX := hide (show Pr.need ts sz (Pr.name ts sz (Pr.adv s)) [61] = Pr.adv (Pr.adv (Pr.adv s)) by rw [Pr.name_go hn1, Pr.need_go hw2])
  have Q := hide (ihE (Pr.adv (Pr.adv (Pr.adv s))) HG2.out HD2.out.le hbad _ HD2.out)
  go_wp2_with fail
  refine Q.out.mono ?_
  rintro e w3 (⟨r1, v1, l1, rfl, hc, hb1, ho, hd, hm, hp⟩ | ⟨q, rfl, hq, hm⟩)
  rotate_left
  · exact ⟨rfl, .inr ⟨_, rfl, .set1 hi (by rw [HX.out]; exact hq), HM2.out.t hm⟩⟩
  obtain ⟨t1, u1, rfl⟩ := hp.iface
  have HC1 := hide hc
  have HO1 := hide ho
  have HPn := hide (hp.low HM2.out.size)
  clear ho hp
  have HD3 := hide (show IP b tp tc ts sz (r1.1).p w3 from hd)
  have HM3 := hide (HM2.out.t hm)
  have HG3 := hide (show m ≤ (r1.1).p from Nat.le_trans HG2.out (hc.stp HD2.out.le).ge)
  clear hd hm Q
  clear hc
  have HP1_3 := hide HPn.out
  clear HPn
  cases hw4 : Pr.is ts sz (r1.1) [59]
  case false =>
    have hB := Pr.Bd.need_of (ts := ts) (sz := sz) (s := r1.1) hb1 hw4
    have HE := hide (show Pr.Ends ts sz .statement s (Pr.tok ts sz (r1.1)).place from .set2 hi (by rw [HX.out]; exact HC1.out) (Pr.Bd.need_of (s := Pr.put r1.1 21 0 0 (Pr.nameT ts sz (Pr.adv s)) 1) hb1 hw4))
    have Q := hide (wantN (s := r1.1) HD3.out hb1 [59] #[59] rfl hw4)
    clear hB
    go_wp2_with fail
    refine Q.out.mono ?_
    rintro e w4 ⟨rfl, hm⟩
    exact ⟨rfl, .inr ⟨_, rfl, HE.out, HM3.out.t hm⟩⟩
  have Q := hide (wantY (s := r1.1) HD3.out [59] #[59] rfl hw4)
  go_wp2_with fail
  refine Q.out.mono ?_
  rintro e w4 ⟨rfl, hd, hm⟩
  have HD4 := hide (show IP b tp tc ts sz (Pr.adv (r1.1)).p w4 from hd)
  have HM4 := hide (HM3.out.t hm)
  have HG4 := hide (show m ≤ (Pr.adv (r1.1)).p from Nat.le_succ_of_le HG3.out)
  have HP1_4 := hide (HP1_3.out.mv hm hlt (Nat.le_refl _))
  clear HP1_3
  clear hd hm Q
  have Q := hide (newPart_any 21 0 0 0 ⟨(Pr.tok ts sz (Pr.adv s)).text.toArray⟩ (some ⟨w4.heap.size, 0, none⟩) 1 1 (w4.alloc (.cells #[.iface t1 u1] 46)))
  go_wp2_with fail
  refine Q.out.mono ?_
  rintro e w5 ⟨rfl, hb⟩
  have hr : Ip.Row w0.heap.size (w4.alloc (.cells #[.iface t1 u1] 46)) (.slice (some ⟨w4.heap.size, 0, none⟩) 1 1) 1 (l1) := (Ip.some1 HP1_4.out).row HM4.out.size (by simp)
  have HPm := hide ((hr.below hb).made (x := ⟨21, 0, 0, ⟨(Pr.tok ts sz (Pr.adv s)).text.toArray⟩, 1⟩) rfl)
  clear hr
  have hbb := below_lit hb
  have HD5 := hide (HD4.out.below hbb)
  have HM5 := hide (HM4.out.more hbb)
  clear hb hbb Q
  have HY := hide (show Pr.need ts sz (Pr.put r1.1 21 0 0 (Pr.nameT ts sz (Pr.adv s)) 1) [59] = Pr.adv (Pr.put r1.1 21 0 0 (Pr.nameT ts sz (Pr.adv s)) 1) from Pr.need_go hw4)
  go_wp2
  go_ret
  exact .inl ⟨(Pr.need ts sz (Pr.put r1.1 21 0 0 (Pr.nameT ts sz (Pr.adv s)) 1) [59], 0), _, _, rfl, .st_let (Pr.is_not hi (by decide)) hi (by rw [HX.out]; exact HC1.out), by rw [HY.out]; exact hb1, by rw [HY.out]; simp [Pr.put, HO1.out, Pr.nameT_go hn1], by rw [HY.out]; exact HD5.out, HM5.out, HPm.out⟩

set_option maxRecDepth 100000 in
set_option maxHeartbeats 2000000 in
theorem iload_any {b tc sz m : Nat} {tp : Option Addr} {ts : List Sc.T} {s : Pr.Dk} (hi : Pr.is ts sz s Pr.sLoad = true) (hm0 : m ≤ (Pr.adv s).p) :
    Ip.Does b tp tc ts sz 67 #[.pointer (some ⟨b, 0, none⟩)] .statement s (Pr.adv s) := by
  intro w0 hd0
  have hlt := hd0.lt
  have hmost := hd0.most
  have HD0 := hide hd0
  have HM0 := hide (Ip.Mv.refl b w0)
  have HG0 := hide (show m ≤ (Pr.adv s).p from hm0)
  have hbad : (Pr.adv s).bad = false := (Pr.is_fine hi : s.bad = false)
  have hmf : ∀ (fn : Fn) (first cap : Array Value) (w : World), (Instr.makeFunc fn first cap).run Tryz.prog w = .ok (.func fn first cap) w := fun _ _ _ _ => rfl
  clear hd0
  go_enter Tryz.func67, Tryz.ntmps67
  cases hk1 : ((Pr.tok ts sz (Pr.adv s)).kind == 4)
  case false =>
    have HE := hide (show Pr.Ends ts sz .statement s (Pr.tok ts sz (Pr.adv s)).place from .ld0 hi hk1)
    have Q := hide (itakeN (s := Pr.adv s) HD0.out 4 (by simpa using hk1))
    go_wp2_with fail
    refine Q.out.mono ?_
    rintro e w1 ⟨rfl, hm⟩
    exact ⟨rfl, .inr ⟨_, rfl, HE.out, HM0.out.t hm⟩⟩
  have Q := hide (itakeY (s := Pr.adv s) HD0.out 4 (by decide) (by simpa using hk1))
  go_wp2_with fail
  refine Q.out.mono ?_
  rintro e w1 ⟨rfl, hd, hm⟩
  have HD1 := hide (show IP b tp tc ts sz (Pr.adv (Pr.adv s)).p w1 from hd)
  have HM1 := hide (HM0.out.t hm)
  have HG1 := hide (show m ≤ (Pr.adv (Pr.adv s)).p from Nat.le_succ_of_le HG0.out)
  clear hd hm Q
  have hf1 := tokField1 (Pr.tok ts sz (Pr.adv s)).kind (Pr.tok ts sz (Pr.adv s)).n (Pr.tok ts sz (Pr.adv s)).place ⟨(Pr.tok ts sz (Pr.adv s)).text.toArray⟩
  unfold Pr.tokV
  cases hw2 : Pr.is ts sz (Pr.adv (Pr.adv s)) [58]
  case false =>
    have hB := Pr.Bd.need_of (ts := ts) (sz := sz) (s := Pr.adv (Pr.adv s)) hbad hw2
    have HE := hide (show Pr.Ends ts sz .statement s (Pr.tok ts sz (Pr.adv (Pr.adv s))).place from .ld1 hi hk1 (hB.loadL 0))
    have Q := hide (wantN (s := Pr.adv (Pr.adv s)) HD1.out hbad [58] #[58] rfl hw2)
    clear hB
    go_wp2_with fail
    refine Q.out.mono ?_
    rintro e w2 ⟨rfl, hm⟩
    exact ⟨rfl, .inr ⟨_, rfl, HE.out, HM1.out.t hm⟩⟩
  have Q := hide (wantY (s := Pr.adv (Pr.adv s)) HD1.out [58] #[58] rfl hw2)
  go_wp2_with fail
  refine Q.out.mono ?_
  rintro e w2 ⟨rfl, hd, hm⟩
  have HD2 := hide (show IP b tp tc ts sz (Pr.adv (Pr.adv (Pr.adv s))).p w2 from hd)
  have HM2 := hide (HM1.out.t hm)
  have HG2 := hide (show m ≤ (Pr.adv (Pr.adv (Pr.adv s))).p from Nat.le_succ_of_le HG1.out)
  clear hd hm Q
  have HX := hide (show Pr.need ts sz (Pr.adv (Pr.adv s)) [58] = Pr.adv (Pr.adv (Pr.adv s)) from Pr.need_go hw2)
  have Q := hide (some_any (lo := w0.heap.size) (nb := b) (f := false) (g := fun _ => false) (m := m) (fst := #[.pointer (some ⟨b, 0, none⟩)]) (cap := #[]) (Ip.keeps_true b _) ((loads_any (b := b) (tp := tp) (tc := tc) (ts := ts) (sz := sz) m).up (Nat.zero_le _)) hlt (ent_name _) rfl HG2.out hbad HM2.out.size HD2.out trivial)
  go_wp2_with fail
  refine Q.out.mono ?_
  rintro e w3 (⟨d1, n1, sv, l1, rfl, hf, hb1, hx1, ho, hge, hd, hm, hr, ho1s, hn1s⟩ | ⟨q, rfl, hq, hm⟩)
  rotate_left
  · exact ⟨rfl, .inr ⟨_, rfl, .ld1 hi hk1 (by rw [HX.out]; exact hq), HM2.out.t hm.one⟩⟩
  obtain ⟨sp1, sc1, rfl⟩ := hr.form
  have HF1 := hide hf
  have HO1 := hide ho
  have HRn := hide (hr.low HM2.out.size)
  have hm1 := hm.one
  clear ho hr hf hm
  have HD3 := hide (show IP b tp tc ts sz (d1).p w3 from hd)
  have HM3 := hide (HM2.out.t hm1)
  have HG3 := hide (show m ≤ (d1).p from Nat.le_trans HG2.out hge)
  clear hd hm1 Q
  have HR1_3 := hide HRn.out
  clear HRn hge
  cases hw4 : Pr.is ts sz (d1) [59]
  case false =>
    have hB := Pr.Bd.need_of (ts := ts) (sz := sz) (s := d1) hb1 hw4
    have HE := hide (show Pr.Ends ts sz .statement s (Pr.tok ts sz (d1)).place from .ld2 (r1 := (d1, n1)) hi hk1 (by rw [HX.out]; exact HF1.out) (Pr.Bd.need_of (s := Pr.put d1 23 0 0 (Pr.tok ts sz (Pr.adv s)).text n1) hb1 hw4))
    have Q := hide (wantN (s := d1) HD3.out hb1 [59] #[59] rfl hw4)
    clear hB
    go_wp2_with fail
    refine Q.out.mono ?_
    rintro e w4 ⟨rfl, hm⟩
    exact ⟨rfl, .inr ⟨_, rfl, HE.out, HM3.out.t hm⟩⟩
  have Q := hide (wantY (s := d1) HD3.out [59] #[59] rfl hw4)
  go_wp2_with fail
  refine Q.out.mono ?_
  rintro e w4 ⟨rfl, hd, hm⟩
  have HD4 := hide (show IP b tp tc ts sz (Pr.adv (d1)).p w4 from hd)
  have HM4 := hide (HM3.out.t hm)
  have HG4 := hide (show m ≤ (Pr.adv (d1)).p from Nat.le_succ_of_le HG3.out)
  have HR1_4 := hide (HR1_3.out.mv hm hlt (Nat.le_refl _))
  clear HR1_3
  clear hd hm Q
  have Q := hide (newPart_any 23 0 0 0 ⟨(Pr.tok ts sz (Pr.adv s)).text.toArray⟩ sp1 n1 sc1 w4)
  go_wp2_with fail
  refine Q.out.mono ?_
  rintro e w5 ⟨rfl, hb⟩
  have HPm := hide ((HR1_4.out.below hb).made (x := ⟨23, 0, 0, ⟨(Pr.tok ts sz (Pr.adv s)).text.toArray⟩, (n1 : Nat)⟩) rfl)
  have HD5 := hide (HD4.out.below hb)
  have HM5 := hide (HM4.out.more hb)
  clear hb Q
  have HY := hide (show Pr.need ts sz (Pr.put d1 23 0 0 (Pr.tok ts sz (Pr.adv s)).text n1) [59] = Pr.adv (Pr.put d1 23 0 0 (Pr.tok ts sz (Pr.adv s)).text n1) from Pr.need_go hw4)
  go_wp2
  go_ret
  exact .inl ⟨(Pr.need ts sz (Pr.put d1 23 0 0 (Pr.tok ts sz (Pr.adv s)).text n1) [59], 0), _, _, rfl, .st_load (r1 := (d1, n1)) (Pr.is_not hi (by decide)) (Pr.is_not hi (by decide)) (Pr.is_not hi (by decide)) hi hk1 (by rw [HX.out]; exact HF1.out), by rw [HY.out]; exact hb1, by rw [HY.out]; simp [Pr.put, HO1.out], by rw [HY.out]; exact HD5.out, HM5.out, HPm.out⟩

set_option maxRecDepth 100000 in
set_option maxHeartbeats 2000000 in
theorem idef_any {b tc sz m : Nat} {tp : Option Addr} {ts : List Sc.T} {s : Pr.Dk} (hi : Pr.is ts sz s Pr.sDef = true) (hm0 : m ≤ (Pr.adv s).p) (ihE : ∀ q : Pr.Dk, m ≤ q.p → q.p ≤ ts.length → q.bad = false → Ip.DE b tp tc ts sz q) :
    Ip.Does b tp tc ts sz 63 #[.pointer (some ⟨b, 0, none⟩)] .statement s (Pr.adv s) := by
  intro w0 hd0
  have hlt := hd0.lt
  have hmost := hd0.most
  have HD0 := hide hd0
  have HM0 := hide (Ip.Mv.refl b w0)
  have HG0 := hide (show m ≤ (Pr.adv s).p from hm0)
  have hbad : (Pr.adv s).bad = false := (Pr.is_fine hi : s.bad = false)
  have hmf : ∀ (fn : Fn) (first cap : Array Value) (w : World), (Instr.makeFunc fn first cap).run Tryz.prog w = .ok (.func fn first cap) w := fun _ _ _ _ => rfl
  clear hd0
  go_enter Tryz.func63, Tryz.ntmps63
  cases hk1 : ((Pr.tok ts sz (Pr.adv s)).kind == 1)
  case false =>
    have hB := Pr.Bd.name_of (ts := ts) (sz := sz) (s := Pr.adv s) hbad (by rw [Pr.isName_of hbad]; exact hk1)
    have HE := hide (show Pr.Ends ts sz .statement s (Pr.tok ts sz (Pr.adv s)).place from .def1 hi hB.params)
    have Q := hide (itakeN (s := Pr.adv s) HD0.out 1 (by simpa using hk1))
    clear hB
    go_wp2_with fail
    refine Q.out.mono ?_
    rintro e w1 ⟨rfl, hm⟩
    exact ⟨rfl, .inr ⟨_, rfl, HE.out, HM0.out.t hm⟩⟩
  have hn1 : Pr.isName ts sz (Pr.adv s) = true := by rw [Pr.isName_of hbad]; exact hk1
  have Q := hide (itakeY (s := Pr.adv s) HD0.out 1 (by decide) (by simpa using hk1))
  go_wp2_with fail
  refine Q.out.mono ?_
  rintro e w1 ⟨rfl, hd, hm⟩
  have HD1 := hide (show IP b tp tc ts sz (Pr.adv (Pr.adv s)).p w1 from hd)
  have HM1 := hide (HM0.out.t hm)
  have HG1 := hide (show m ≤ (Pr.adv (Pr.adv s)).p from Nat.le_succ_of_le HG0.out)
  clear hd hm Q
  have hf1 := tokField1 (Pr.tok ts sz (Pr.adv s)).kind (Pr.tok ts sz (Pr.adv s)).n (Pr.tok ts sz (Pr.adv s)).place ⟨(Pr.tok ts sz (Pr.adv s)).text.toArray⟩
  unfold Pr.tokV
  cases hw2 : Pr.is ts sz (Pr.adv (Pr.adv s)) [40]
  case false =>
    have hB := Pr.Bd.need_of (ts := ts) (sz := sz) (s := Pr.adv (Pr.adv s)) hbad hw2
    have HE := hide (show Pr.Ends ts sz .statement s (Pr.tok ts sz (Pr.adv (Pr.adv s))).place from .def1 hi (by rw [Pr.name_go hn1]; exact .params1 (hB.paramsL 0)))
    have Q := hide (wantN (s := Pr.adv (Pr.adv s)) HD1.out hbad [40] #[40] rfl hw2)
    clear hB
    go_wp2_with fail
    refine Q.out.mono ?_
    rintro e w2 ⟨rfl, hm⟩
    exact ⟨rfl, .inr ⟨_, rfl, HE.out, HM1.out.t hm⟩⟩
  have Q := hide (wantY (s := Pr.adv (Pr.adv s)) HD1.out [40] #[40] rfl hw2)
  go_wp2_with fail
  refine Q.out.mono ?_
  rintro e w2 ⟨rfl, hd, hm⟩
  have HD2 := hide (show IP b tp tc ts sz (Pr.adv (Pr.adv (Pr.adv s))).p w2 from hd)
  have HM2 := hide (HM1.out.t hm)
  have HG2 := hide (show m ≤ (Pr.adv (Pr.adv (Pr.adv s))).p from Nat.le_succ_of_le HG1.out)
  clear hd hm Q
  have HX := hide (show Pr.need ts sz (Pr.name ts sz (Pr.adv s)) [40] = Pr.adv (Pr.adv (Pr.adv s)) by rw [Pr.name_go hn1, Pr.need_go hw2])
  have Q := hide (upTo_any (E := [41]) (a := #[41]) rfl (lo := w0.heap.size) (nb := b) (f := false) (m := m) (fst := #[.pointer (some ⟨b, 0, none⟩)]) (cap := #[]) (Ip.keeps_true b _) ((params_any (b := b) (tp := tp) (tc := tc) (ts := ts) (sz := sz) (m := m) ihE).up (Nat.zero_le _)) hlt (ent_param _) (fun h => .paramsL_end (Pr.is_fine h) h) HG2.out hbad HM2.out.size HD2.out trivial)
  go_wp2_with fail
  refine Q.out.mono ?_
  rintro e w3 (⟨d1, n1, sv, l1, rfl, hf, hb1, he1, ho, hge, hd, hm, hr, hn1s⟩ | ⟨q, rfl, hq, hm⟩)
  rotate_left
  · exact ⟨rfl, .inr ⟨_, rfl, .def1 hi (hq.elim (fun h => .params1 (by rw [HX.out]; exact h)) (fun ⟨t, n, h1, h2⟩ => .params2 (r1 := (t, n)) (by rw [HX.out]; exact h1) h2)), HM2.out.t hm.one⟩⟩
  obtain ⟨sp1, sc1, rfl⟩ := hr.form
  have HF1 := hide hf
  have HO1 := hide ho
  have HRn := hide (hr.low HM2.out.size)
  have hm1 := hm.one
  clear ho hr hf hm
  have HD3 := hide (show IP b tp tc ts sz (Pr.adv d1).p w3 from hd)
  have HM3 := hide (HM2.out.t hm1)
  have HG3 := hide (show m ≤ (Pr.adv d1).p from Nat.le_succ_of_le (Nat.le_trans HG2.out hge))
  clear hd hm1 Q
  have HR1_3 := hide HRn.out
  clear HRn hge
  have HZ := hide (show Pr.Cv ts sz .params (Pr.name ts sz (Pr.adv s)) (Pr.adv d1, n1) from by have := Pr.Cv.params (s := Pr.name ts sz (Pr.adv s)) (r1 := (d1, n1)) (by rw [HX.out]; exact HF1.out); rw [Pr.need_go he1] at this; exact this)
  cases hw4 : Pr.is ts sz (Pr.adv d1) [61]
  case false =>
    have hB := Pr.Bd.need_of (ts := ts) (sz := sz) (s := Pr.adv d1) hb1 hw4
    have HE := hide (show Pr.Ends ts sz .statement s (Pr.tok ts sz (Pr.adv d1)).place from .def2 hi HZ.out hB.e)
    have Q := hide (wantN (s := Pr.adv d1) HD3.out hb1 [61] #[61] rfl hw4)
    clear hB
    go_wp2_with fail
    refine Q.out.mono ?_
    rintro e w4 ⟨rfl, hm⟩
    exact ⟨rfl, .inr ⟨_, rfl, HE.out, HM3.out.t hm⟩⟩
  have Q := hide (wantY (s := Pr.adv d1) HD3.out [61] #[61] rfl hw4)
  go_wp2_with fail
  refine Q.out.mono ?_
  rintro e w4 ⟨rfl, hd, hm⟩
  have HD4 := hide (show IP b tp tc ts sz (Pr.adv (Pr.adv d1)).p w4 from hd)
  have HM4 := hide (HM3.out.t hm)
  have HG4 := hide (show m ≤ (Pr.adv (Pr.adv d1)).p from Nat.le_succ_of_le HG3.out)
  have HR1_4 := hide (HR1_3.out.mv hm hlt (Nat.le_refl _))
  clear HR1_3
  clear hd hm Q
  have HA := hide (show ∀ q, (Value.slice sp1 n1 sc1).ownBlock = some q → q < w4.heap.size from fun q e => (HR1_4.out.lt e).2)
  have Q := hide (ihE (Pr.adv (Pr.adv d1)) HG4.out HD4.out.le hb1 _ HD4.out)
  go_wp2_with fail
  refine Q.out.mono ?_
  rintro e w5 (⟨r2, v2, l2, rfl, hc, hb2, ho, hd, hm, hp⟩ | ⟨q, rfl, hq, hm⟩)
  rotate_left
  · exact ⟨rfl, .inr ⟨_, rfl, .def2 hi HZ.out (by rw [Pr.need_go hw4]; exact hq), HM4.out.t hm⟩⟩
  obtain ⟨t2, u2, rfl⟩ := hp.iface
  have HC2 := hide hc
  have HO2 := hide ho
  have HPn := hide (hp.low HM4.out.size)
  have HPraw := hide hp
  clear ho hp
  have HD5 := hide (show IP b tp tc ts sz (r2.1).p w5 from hd)
  have HM5 := hide (HM4.out.t hm)
  have HG5 := hide (show m ≤ (r2.1).p from Nat.le_trans HG4.out (hc.stp HD4.out.le).ge)
  have HR1_5 := hide (HR1_4.out.mv hm hlt (Nat.le_refl _))
  clear HR1_4
  clear hd hm Q
  clear hc
  have HP2_5 := hide HPn.out
  clear HPn
  go_wp2_with (at_builtin; refine wp_push rfl _ _ rfl w0.heap.size w4.heap.size n1 (.slice sp1 n1 sc1) (.iface t2 u2) l1 l2 HR1_5.out HPraw.out HM4.out.size HM5.out.size HA.out (by omega) rfl rfl ?_)
  intro v w6 hr hb
  obtain ⟨sq1, sd1, rfl⟩ := hr.form
  have HS1_6 := hide hr
  have HD6 := hide (HD5.out.fresh hb hlt)
  have HM6 := hide (HM5.out.fresh hb (Nat.le_refl _))
  have HG6 := hide HG5.out
  clear hr hb HR1_5 HP2_5 HPraw HA
  cases hw7 : Pr.is ts sz (r2.1) [59]
  case false =>
    have hB := Pr.Bd.need_of (ts := ts) (sz := sz) (s := r2.1) hb2 hw7
    have HE := hide (show Pr.Ends ts sz .statement s (Pr.tok ts sz (r2.1)).place from .def3 (r1 := (Pr.adv d1, n1)) hi HZ.out (by rw [Pr.need_go hw4]; exact HC2.out) (Pr.Bd.need_of (s := Pr.put r2.1 20 0 0 (Pr.nameT ts sz (Pr.adv s)) (n1 + 1)) hb2 hw7))
    have Q := hide (wantN (s := r2.1) HD6.out hb2 [59] #[59] rfl hw7)
    clear hB
    go_wp2_with fail
    refine Q.out.mono ?_
    rintro e w7 ⟨rfl, hm⟩
    exact ⟨rfl, .inr ⟨_, rfl, HE.out, HM6.out.t hm⟩⟩
  have Q := hide (wantY (s := r2.1) HD6.out [59] #[59] rfl hw7)
  go_wp2_with fail
  refine Q.out.mono ?_
  rintro e w7 ⟨rfl, hd, hm⟩
  have HD7 := hide (show IP b tp tc ts sz (Pr.adv (r2.1)).p w7 from hd)
  have HM7 := hide (HM6.out.t hm)
  have HG7 := hide (show m ≤ (Pr.adv (r2.1)).p from Nat.le_succ_of_le HG6.out)
  have HS1_7 := hide (HS1_6.out.mv hm hlt (Nat.le_refl _))
  clear HS1_6
  clear hd hm Q
  have Q := hide (newPart_any 20 0 0 0 ⟨(Pr.tok ts sz (Pr.adv s)).text.toArray⟩ sq1 (n1 + 1) sd1 w7)
  go_wp2_with fail
  refine Q.out.mono ?_
  rintro e w8 ⟨rfl, hb⟩
  have HPm := hide ((HS1_7.out.below hb).made (x := ⟨20, 0, 0, ⟨(Pr.tok ts sz (Pr.adv s)).text.toArray⟩, ((n1 + 1) : Nat)⟩) rfl)
  have HD8 := hide (HD7.out.below hb)
  have HM8 := hide (HM7.out.more hb)
  clear hb Q
  have HY := hide (show Pr.need ts sz (Pr.put r2.1 20 0 0 (Pr.nameT ts sz (Pr.adv s)) (n1 + 1)) [59] = Pr.adv (Pr.put r2.1 20 0 0 (Pr.nameT ts sz (Pr.adv s)) (n1 + 1)) from Pr.need_go hw7)
  go_wp2
  go_ret
  exact .inl ⟨(Pr.need ts sz (Pr.put r2.1 20 0 0 (Pr.nameT ts sz (Pr.adv s)) (n1 + 1)) [59], 0), _, _, rfl, .st_def (r1 := (Pr.adv d1, n1)) hi HZ.out (by rw [Pr.need_go hw4]; exact HC2.out), by rw [HY.out]; exact hb2, by rw [HY.out]; simp [Pr.put, HO1.out, HO2.out, Pr.nameT_go hn1], by rw [HY.out]; exact HD8.out, HM8.out, HPm.out⟩

end Go.Proofs.YtfjoecbkagedbaaGreatDoor
