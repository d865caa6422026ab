/- FormPlan of the program: the same text, written into a strings.Builder. -/
import Derived.Test.YtlganondmnhecaaTj
import Derived.Test.YtlganondmnhecaaTg
import Derived.Deep.RegionHeld3
namespace Go.Proofs.Ytlganondmnhecaa.Pl
open Go.RowKit

theorem isb_drew {T e : TypeId} {B b : Nat} {bs : List Value} {W : World} (h : Lib.IsBuilderF T e B b bs W) : Lib.IsBuilderF T e B b bs W.drew := h
theorem writeStr_n (B b : Nat) (bs : List Value) (s : ByteArray) (n : Int) (hn : n = s.size) (w : World) (h : Lib.IsBuilderF tB tU B b bs w) (hlen : bs.length + s.size ≤ 140737488355328) (hBw : B ≤ w.heap.size) :
    Calls Try.prog 12 #[.pointer (some ⟨b, 0, none⟩), .string s] w fun e w' => e = .returned (.tuple #[.int .i64 n, .nilIface]) ∧ (Lib.BuilderAtF tB tU B b (.pointer (some ⟨b, 0, none⟩)) (bs ++ Lib.strCells s) w' ∧ Below B w w' ∧ Lib.OthersKept tU (some b) w w') := by
  subst hn
  exact writeStr_any B b bs s w h hlen hBw
theorem strCells_byte (l : List UInt8) : Lib.strCells ⟨l.toArray⟩ = Lib.byteCells l := by simp [Lib.strCells, Lib.byteCells]

set_option maxRecDepth 100000 in
set_option maxHeartbeats 4000000 in
theorem implPlan_any (l : List Tg) (g c : Nat) (w : World) (hl : l.length + wtT l ≤ 1048576) (ht : TgsC w g l) :
    Calls Try.prog 7 #[.slice (some ⟨g, 0, none⟩) l.length c] w fun e w' => e = .returned (.string ⟨(planForm l).toArray⟩) ∧ Below w.heap.size w w' := by
  have HT := hide ht
  have HL := hide (plan_len l)
  clear ht
  go_enter Try.func7, Try.ntmps7
  go_wp2
  go_loopw [12] (fun i wr => ∃ (j : Nat) (t : List UInt8), j ≤ l.length ∧ i = .int .i64 j ∧ Lib.IsBuilderF tB tU w.heap.size w.heap.size (Lib.byteCells t) wr ∧ Below w.heap.size w wr ∧ t ++ planForm (l.drop j) = planForm l) (fun i _ => l.length - (intOf i).toNat)
  case atStart =>
    exact ⟨0, [], Nat.zero_le _, rfl, Lib.IsBuilderF.of (Lib.fresh_isBuilder tB tU w), (Below.refl _ _).alloc (Nat.le_refl _) _, by simp⟩
  case round =>
    obtain ⟨j, t, hj, rfl, hown, hB, he⟩ := hrel
    have HE := hide he
    clear he
    have hsz := hB.size
    by_cases hlt : j < l.length
    · obtain ⟨gi, go, c0, c1, c2, c3, c4, si, so⟩ := HT.out.2 j hlt
      replace c0 := (hB.cell (p := ⟨g, j * 5, none⟩) HT.out.1).trans c0
      replace c1 := (hB.cell (p := ⟨g, j * 5 + 1, none⟩) HT.out.1).trans c1
      replace c2 := (hB.cell (p := ⟨g, j * 5 + 2, none⟩) HT.out.1).trans c2
      replace c3 := (hB.cell (p := ⟨g, j * 5 + 3, none⟩) HT.out.1).trans c3
      replace c4 := (hB.cell (p := ⟨g, j * 5 + 4, none⟩) HT.out.1).trans c4
      have HPD := hide (plan_drop l j hlt)
      have hwx : (l[j]).wt ≤ 1048576 := by
        have h1 := wtT_drop l j hlt
        have h2 : wtT l = wtT (l.take j) + wtT (l.drop j) := by unfold wtT; rw [← List.sum_append, ← List.map_append, List.take_append_drop]
        omega
      generalize l[j] = x at *
      have hwt : x.wt = x.name.size + x.tool.size + x.arg.size + wtS x.ins + wtS x.outs := rfl
      have hil : x.ins.length ≤ 1048576 := by have := wtS_len x.ins; omega
      have hol : x.outs.length ≤ 1048576 := by have := wtS_len x.outs; omega
      have HQ1 := hide (show ∀ w', Calls Try.prog 13 #[.string x.name] w' fun e w'' => e = .returned (.string ⟨(qs x.name).toArray⟩) ∧ Below w'.heap.size w' w'' from fun w' => iquote_any x.name w' (by omega))
      have HQ2 := hide (show ∀ w', Calls Try.prog 13 #[.string x.tool] w' fun e w'' => e = .returned (.string ⟨(qs x.tool).toArray⟩) ∧ Below w'.heap.size w' w'' from fun w' => iquote_any x.tool w' (by omega))
      have HQ3 := hide (show ∀ w', Calls Try.prog 13 #[.string x.arg] w' fun e w'' => e = .returned (.string ⟨(qs x.arg).toArray⟩) ∧ Below w'.heap.size w' w'' from fun w' => iquote_any x.arg w' (by omega))
      have l1 := qs_len x.name
      have l2 := qs_len x.tool
      have l3 := qs_len x.arg
      have HH : Hid (headForm x = qs x.name ++ [58, 32] ++ qs x.tool ++ [32] ++ qs x.arg ++ [10]) := hide rfl
      have HF : Hid (x.form = headForm x ++ (x.ins.flatMap inForm ++ x.outs.flatMap outForm)) := hide rfl
      have bx0 := BoxT.start wr x gi go
      have HSI := hide si
      have HSO := hide so
      have HOW := hide ((Lib.IsBuilderF.alloc hown (.cells #[.string x.name, .string x.tool, .string x.arg, .slice (some ⟨gi, 0, none⟩) x.ins.length x.ins.length, .slice (some ⟨go, 0, none⟩) x.outs.length x.outs.length] 34)))
      have HB0 := hide (hB.alloc hB.size (.cells #[.string x.name, .string x.tool, .string x.arg, .slice (some ⟨gi, 0, none⟩) x.ins.length x.ins.length, .slice (some ⟨go, 0, none⟩) x.outs.length x.outs.length] 34))
      have hmz : (wr.alloc (.cells #[.string x.name, .string x.tool, .string x.arg, .slice (some ⟨gi, 0, none⟩) x.ins.length x.ins.length, .slice (some ⟨go, 0, none⟩) x.outs.length x.outs.length] 34)).heap.size = wr.heap.size + 1 := World.size_alloc _ _
      obtain ⟨m1, m2, m3, m4, m5⟩ := box_cells bx0.2
      have HBX0 := hide bx0
      have hneb : wr.heap.size ≠ w.heap.size := by have := hown.elim (fun z => z.lt) (fun z => z.lt); omega
      clear si so hown bx0 m4 m5
      generalize qs x.name = qa at *
      generalize qs x.tool = qt at *
      generalize qs x.arg = qr at *
      obtain ⟨p1, hp1⟩ : ∃ p, p = qa ++ [58, 32] := ⟨_, rfl⟩
      obtain ⟨p2, hp2⟩ : ∃ p, p = p1 ++ qt := ⟨_, rfl⟩
      obtain ⟨p3, hp3⟩ : ∃ p, p = p2 ++ [32] := ⟨_, rfl⟩
      obtain ⟨p4, hp4⟩ : ∃ p, p = p3 ++ qr := ⟨_, rfl⟩
      obtain ⟨p5, hp5⟩ : ∃ p, p = p4 ++ [10] := ⟨_, rfl⟩
      have hc1 : (⟨qa.toArray⟩ : ByteArray) ++ ⟨#[58, 32]⟩ = ⟨p1.toArray⟩ := by rw [hp1]; exact mk_app qa [58, 32]
      have hc2 : (⟨p1.toArray⟩ : ByteArray) ++ ⟨qt.toArray⟩ = ⟨p2.toArray⟩ := by rw [hp2]; exact mk_app _ _
      have hc3 : (⟨p2.toArray⟩ : ByteArray) ++ ⟨#[32]⟩ = ⟨p3.toArray⟩ := by rw [hp3]; exact mk_app _ [32]
      have hc4 : (⟨p3.toArray⟩ : ByteArray) ++ ⟨qr.toArray⟩ = ⟨p4.toArray⟩ := by rw [hp4]; exact mk_app _ _
      have hc5 : (⟨p4.toArray⟩ : ByteArray) ++ ⟨#[10]⟩ = ⟨p5.toArray⟩ := by rw [hp5]; exact mk_app _ [10]
      have n1 : p1.length = qa.length + 2 := by rw [hp1]; simp
      have n2 : p2.length = p1.length + qt.length := by rw [hp2]; simp
      have n3 : p3.length = p2.length + 1 := by rw [hp3]; simp
      have n4 : p4.length = p3.length + qr.length := by rw [hp4]; simp
      have n5 : p5.length = p4.length + 1 := by rw [hp5]; simp
      have k1 : ¬ 9223372036854775807 < qa.length + 2 := by omega
      have k2 : ¬ 9223372036854775807 < p1.length + qt.length := by omega
      have k3 : ¬ 9223372036854775807 < p2.length + 1 := by omega
      have k4 : ¬ 9223372036854775807 < p3.length + qr.length := by omega
      have k5 : ¬ 9223372036854775807 < p4.length + 1 := by omega
      have HP : Hid (p5 = headForm x) := hide (by rw [HH.out, hp5, hp4, hp3, hp2, hp1])
      have hpl : p5.length ≤ 4000000 := by omega
      have hpl0 : 0 < p5.length := by omega
      have HPL : Hid (t.length ≤ 10485760) := hide (by have h1 := congrArg List.length HE.out; have := HL.out; rw [List.length_append] at h1; omega)
      have htl := HPL.out
      clear hp1 hp2 hp3 hp4 hp5 n1 n2 n3 n4 n5 l1 l2 l3
      obtain ⟨n5, hn5⟩ : ∃ n : Int, n = ((⟨p5.toArray⟩ : ByteArray).size : Int) := ⟨_, rfl⟩
      have HN5 := hide hn5
      clear hn5
      go_wp2_with fail
      go_region_held3 (fun w' => w'.cell? ⟨wr.heap.size, 0, none⟩ = some (.string x.name) ∧ w'.cell? ⟨wr.heap.size, 1, none⟩ = some (.string x.tool) ∧ w'.cell? ⟨wr.heap.size, 2, none⟩ = some (.string x.arg)) (go_keep) (first
        | (refine step_call1 rfl 13 (.tmp 17) 9 rfl (.string x.name) (.string ⟨qa.toArray⟩) (by simp [Act.eval]) Try.f13 Try.func13 (by kernel_rfl) (by kernel_rfl) _ (HQ1.out _) ?_; intro w1 hb1; have X1 := HBX0.out.drew.below hb1; obtain ⟨y0, y1, y2, -, -⟩ := box_cells X1.2)
        | (refine step_call1 rfl 13 (.tmp 21) 9 rfl (.string x.tool) (.string ⟨qt.toArray⟩) (by simp [Act.eval]) Try.f13 Try.func13 (by kernel_rfl) (by kernel_rfl) _ (HQ2.out _) ?_; intro w2 hb2; have X2 := X1.below hb2; obtain ⟨x0, x1, x2, -, -⟩ := box_cells X2.2)
        | (refine step_call1 rfl 13 (.tmp 26) 9 rfl (.string x.arg) (.string ⟨qr.toArray⟩) (by simp [Act.eval]) Try.f13 Try.func13 (by kernel_rfl) (by kernel_rfl) _ (HQ3.out _) ?_; intro w3 hb3; have X3 := X2.below hb3; obtain ⟨v0, v1, v2, -, -⟩ := box_cells X3.2; have O3 := isb_below (isb_below (isb_below (isb_drew HOW.out) hb1) hb2) hb3; have B1 := HB0.out.drew.trans (hb1.mono HB0.out.drew.size); have B2 := B1.trans (hb2.mono B1.size); have B3 := B2.trans (hb3.mono B2.size))
        | (refine step_call2 rfl 12 (.tmp 3) (.tmp 29) 39 9 rfl (.pointer (some ⟨w.heap.size, 0, none⟩)) (.string ⟨p5.toArray⟩) _ (by simp [Act.eval]) (by simp [Act.eval]) Try.f12 Try.func12 (by kernel_rfl) (by kernel_rfl) _ (writeStr_n w.heap.size w.heap.size _ ⟨p5.toArray⟩ n5 HN5.out _ O3 (by rw [Lib.byteCells_length]; simp [ByteArray.size]; omega) B3.size) ?_; intro w4 hw4; obtain ⟨ho4, hb4, hk4⟩ := hw4; have X4 := X3.kept hk4 hneb hb4.size; obtain ⟨s0, s1, s2, -, -⟩ := box_cells X4.2))
      have O5 : Lib.IsBuilderF tB tU w.heap.size w.heap.size (Lib.byteCells (t ++ p5)) w4 := by
        rw [Lib.byteCells_append]; exact .inr (by rw [strCells_byte] at ho4; exact ho4)
      have B5 := B3.trans hb4
      have HO5 := hide O5
      have HB5 := hide B5
      have HX5 := hide X4
      obtain ⟨T, hT⟩ : ∃ T, T = t ++ p5 := ⟨_, rfl⟩
      rw [← hT] at HO5
      have HTL : Hid (T ++ (x.ins.flatMap inForm ++ x.outs.flatMap outForm) ++ planForm (l.drop (j + 1)) = planForm l) := hide (by rw [hT, HP.out, ← HE.out, HPD.out, HF.out]; simp [List.append_assoc])
      obtain ⟨s0, s1, s2, s3, s4⟩ := box_cells HX5.out.2
      clear hb1 hb2 hb3 X1 X2 X3 X4 y0 y1 y2 x0 x1 x2 v0 v1 v2 O3 O5 B1 B2 B3 B5 ho4 hb4 hk4 hc1 hc2 hc3 hc4 hc5 k1 k2 k3 k4 k5 HQ1 HQ2 HQ3 HOW HB0 HBX0 HP HH HF HPD m1 m2 m3 c0 c1 c2 c3 c4 hT hpl hpl0 HPL HE
      clear hsz hmz hB
      generalize wr.heap.size = b at *
      go_wp2
      go_loopw [34] (fun i wr' => ∃ (k : Nat) (t' : List UInt8), k ≤ x.ins.length ∧ i = .int .i64 k ∧ Lib.IsBuilderF tB tU w.heap.size w.heap.size (Lib.byteCells t') wr' ∧ Below w.heap.size w wr' ∧ BoxT wr' b x gi go ∧ t' ++ (x.ins.drop k).flatMap inForm = T ++ x.ins.flatMap inForm) (fun i _ => x.ins.length - (intOf i).toNat)
      case atStart => exact ⟨0, T, Nat.zero_le _, rfl, HO5.out, HB5.out, HX5.out, by simp⟩
      case round =>
        obtain ⟨k, t', hk, rfl, ho', hB', hx', he'⟩ := hrel
        obtain ⟨-, -, -, s3, s4⟩ := box_cells hx'.2
        by_cases hkl : k < x.ins.length
        · have e0 : wr.cell? ⟨gi, k, none⟩ = some (.string x.ins[k]) := (hB'.cell (p := ⟨gi, k, none⟩) HSI.out.1).trans (by have h := HSI.out.2 k hkl; rw [Nat.zero_add] at h; exact h)
          have hsx := wtS_get x.ins k hkl
          have HKL := hide hkl
          have HQ := hide (show ∀ w', Calls Try.prog 13 #[.string x.ins[k]] w' fun e w'' => e = .returned (.string ⟨(qs x.ins[k]).toArray⟩) ∧ Below w'.heap.size w' w'' from fun w' => iquote_any x.ins[k] w' (by omega))
          have HFD := hide (flat_drop inForm x.ins k hkl)
          have HIF : Hid (inForm x.ins[k] = [32, 32, 60, 32] ++ qs x.ins[k] ++ [10]) := hide rfl
          have ql := qs_len x.ins[k]
          have htl' : t'.length ≤ 10485760 := by have h1 := congrArg List.length he'; have h2 := congrArg List.length HTL.out; have := HL.out; simp only [List.length_append] at h1 h2; omega
          have HE' := hide he'
          clear he'
          generalize x.ins[k] = d at *
          generalize qs d = q at *
          obtain ⟨r1, hr1⟩ : ∃ p, p = [32, 32, 60, 32] ++ q := ⟨_, rfl⟩
          obtain ⟨r2, hr2⟩ : ∃ p, p = r1 ++ [10] := ⟨_, rfl⟩
          have hc1 : (⟨#[32, 32, 60, 32]⟩ : ByteArray) ++ ⟨q.toArray⟩ = ⟨r1.toArray⟩ := by rw [hr1]; exact mk_app [32, 32, 60, 32] q
          have hc2 : (⟨r1.toArray⟩ : ByteArray) ++ ⟨#[10]⟩ = ⟨r2.toArray⟩ := by rw [hr2]; exact mk_app _ [10]
          have n1 : r1.length = 4 + q.length := by rw [hr1]; simp; omega
          have n2 : r2.length = r1.length + 1 := by rw [hr2]; simp
          have k1 : ¬ 9223372036854775807 < 4 + q.length := by omega
          have k2 : ¬ 9223372036854775807 < r1.length + 1 := by omega
          have hr0 : 0 < r2.length := by omega
          have hr9 : r2.length ≤ 4000000 := by omega
          have HR2 : Hid (r2 = inForm d) := hide (by rw [HIF.out, hr2, hr1])
          clear hr1 hr2 n1 n2 ql
          go_wp2_with fail
          refine (HQ.out _).mono ?_
          rintro e w1 ⟨rfl, hb1⟩
          have O1 := isb_below ho' hb1
          have B1 := hB'.trans (hb1.mono hB'.size)
          have X1 := hx'.below hb1
          clear hb1
          obtain ⟨n6, hn6⟩ : ∃ n : Int, n = ((⟨r2.toArray⟩ : ByteArray).size : Int) := ⟨_, rfl⟩
          have HW := hide (writeStr_n w.heap.size w.heap.size _ ⟨r2.toArray⟩ n6 hn6 _ O1 (by rw [Lib.byteCells_length]; simp [ByteArray.size]; omega) B1.size)
          clear hn6
          go_wp2_with fail
          refine HW.out.mono ?_
          rintro e w4 ⟨rfl, ho4, hb4, hk4⟩
          have O6 : Lib.IsBuilderF tB tU w.heap.size w.heap.size (Lib.byteCells (t' ++ r2)) w4 := by
            rw [Lib.byteCells_append]; exact .inr (by rw [strCells_byte] at ho4; exact ho4)
          have B6 := B1.trans hb4
          have X6 := X1.kept hk4 hneb hb4.size
          clear ho4 hb4 hk4 O1 B1 X1 HW
          go_wp2
          go_roundw
          case rel => exact ⟨k + 1, t' ++ r2, by have := HKL.out; omega, by go_num, O6, B6, X6, by rw [← HE'.out, HFD.out, HR2.out]; simp [List.append_assoc]⟩
          case measure => have := HKL.out; simp [intOf]; omega
        · obtain rfl : k = x.ins.length := by omega
          have HT2 : Hid (t' = T ++ x.ins.flatMap inForm) := hide (by have h := he'; rw [List.drop_length, List.flatMap_nil, List.append_nil] at h; exact h)
          have HTM : Hid (t' ++ x.outs.flatMap outForm ++ planForm (l.drop (j + 1)) = planForm l) := hide (by rw [HT2.out, ← HTL.out]; simp [List.append_assoc])
          have HO7 := hide ho'
          have HB7 := hide hB'
          have HX7 := hide hx'
          clear he' ho' hB' hx' HO5 HB5 HX5 HT2 HTL
          rename_i T0
          obtain ⟨T2, hT2⟩ : ∃ T2, T2 = t' := ⟨_, rfl⟩
          rw [← hT2] at HTM HO7
          clear hT2
          go_wp2
          go_loopw [47] (fun i wr' => ∃ (k : Nat) (t' : List UInt8), k ≤ x.outs.length ∧ i = .int .i64 k ∧ Lib.IsBuilderF tB tU w.heap.size w.heap.size (Lib.byteCells t') wr' ∧ Below w.heap.size w wr' ∧ BoxT wr' b x gi go ∧ t' ++ (x.outs.drop k).flatMap outForm = T2 ++ x.outs.flatMap outForm) (fun i _ => x.outs.length - (intOf i).toNat)
          case atStart => exact ⟨0, T2, Nat.zero_le _, rfl, HO7.out, HB7.out, HX7.out, by simp⟩
          case round =>
            obtain ⟨k, t', hk, rfl, ho', hB', hx', he'⟩ := hrel
            obtain ⟨-, -, -, s3, s4⟩ := box_cells hx'.2
            by_cases hkl : k < x.outs.length
            · have e0 : wr.cell? ⟨go, k, none⟩ = some (.string x.outs[k]) := (hB'.cell (p := ⟨go, k, none⟩) HSO.out.1).trans (by have h := HSO.out.2 k hkl; rw [Nat.zero_add] at h; exact h)
              have hsx := wtS_get x.outs k hkl
              have HKL := hide hkl
              have HQ := hide (show ∀ w', Calls Try.prog 13 #[.string x.outs[k]] w' fun e w'' => e = .returned (.string ⟨(qs x.outs[k]).toArray⟩) ∧ Below w'.heap.size w' w'' from fun w' => iquote_any x.outs[k] w' (by omega))
              have HFD := hide (flat_drop outForm x.outs k hkl)
              have HIF : Hid (outForm x.outs[k] = [32, 32, 62, 32] ++ qs x.outs[k] ++ [10]) := hide rfl
              have ql := qs_len x.outs[k]
              have htl' : t'.length ≤ 10485760 := by have h1 := congrArg List.length he'; have h2 := congrArg List.length HTM.out; have := HL.out; simp only [List.length_append] at h1 h2; omega
              have HE' := hide he'
              clear he'
              generalize x.outs[k] = d at *
              generalize qs d = q at *
              obtain ⟨r1, hr1⟩ : ∃ p, p = [32, 32, 62, 32] ++ q := ⟨_, rfl⟩
              obtain ⟨r2, hr2⟩ : ∃ p, p = r1 ++ [10] := ⟨_, rfl⟩
              have hc1 : (⟨#[32, 32, 62, 32]⟩ : ByteArray) ++ ⟨q.toArray⟩ = ⟨r1.toArray⟩ := by rw [hr1]; exact mk_app [32, 32, 62, 32] q
              have hc2 : (⟨r1.toArray⟩ : ByteArray) ++ ⟨#[10]⟩ = ⟨r2.toArray⟩ := by rw [hr2]; exact mk_app _ [10]
              have n1 : r1.length = 4 + q.length := by rw [hr1]; simp; omega
              have n2 : r2.length = r1.length + 1 := by rw [hr2]; simp
              have k1 : ¬ 9223372036854775807 < 4 + q.length := by omega
              have k2 : ¬ 9223372036854775807 < r1.length + 1 := by omega
              have hr0 : 0 < r2.length := by omega
              have hr9 : r2.length ≤ 4000000 := by omega
              have HR2 : Hid (r2 = outForm d) := hide (by rw [HIF.out, hr2, hr1])
              clear hr1 hr2 n1 n2 ql
              go_wp2_with fail
              refine (HQ.out _).mono ?_
              rintro e w1 ⟨rfl, hb1⟩
              have O1 := isb_below ho' hb1
              have B1 := hB'.trans (hb1.mono hB'.size)
              have X1 := hx'.below hb1
              clear hb1
              obtain ⟨n6, hn6⟩ : ∃ n : Int, n = ((⟨r2.toArray⟩ : ByteArray).size : Int) := ⟨_, rfl⟩
              have HW := hide (writeStr_n w.heap.size w.heap.size _ ⟨r2.toArray⟩ n6 hn6 _ O1 (by rw [Lib.byteCells_length]; simp [ByteArray.size]; omega) B1.size)
              clear hn6
              go_wp2_with fail
              refine HW.out.mono ?_
              rintro e w4 ⟨rfl, ho4, hb4, hk4⟩
              have O6 : Lib.IsBuilderF tB tU w.heap.size w.heap.size (Lib.byteCells (t' ++ r2)) w4 := by
                rw [Lib.byteCells_append]; exact .inr (by rw [strCells_byte] at ho4; exact ho4)
              have B6 := B1.trans hb4
              have X6 := X1.kept hk4 hneb hb4.size
              clear ho4 hb4 hk4 O1 B1 X1 HW
              go_wp2
              go_roundw
              case rel => exact ⟨k + 1, t' ++ r2, by have := HKL.out; omega, by go_num, O6, B6, X6, by rw [← HE'.out, HFD.out, HR2.out]; simp [List.append_assoc]⟩
              case measure => have := HKL.out; simp [intOf]; omega
            · obtain rfl : k = x.outs.length := by omega
              have HT3 : Hid (t' = T2 ++ x.outs.flatMap outForm) := hide (by have h := he'; rw [List.drop_length, List.flatMap_nil, List.append_nil] at h; exact h)
              go_wp2
              go_roundw
              case rel => exact ⟨j + 1, t', by omega, by go_num, ho', hB', by rw [HT3.out]; exact HTM.out⟩
              case measure => simp [intOf]; omega
    · have HZ : Hid (t = planForm l) := hide (by have h := HE.out; rw [List.drop_of_length_le (by omega)] at h; simpa [planForm] using h)
      have HS := hide (Try.Builder_String_any_k w.heap.size w.heap.size t wr hown hB.size)
      clear hown
      go_wp2_with fail
      refine HS.out.mono ?_
      rintro e w5 ⟨rfl, -, hb5, -⟩
      go_wp2
      go_ret
      exact ⟨ret_str (by rw [HZ.out]), hB.trans hb5⟩
theorem implPlan : ImplPlan := fun l g c w hl ht => implPlan_any l g c w hl ht
end Go.Proofs.Ytlganondmnhecaa.Pl
