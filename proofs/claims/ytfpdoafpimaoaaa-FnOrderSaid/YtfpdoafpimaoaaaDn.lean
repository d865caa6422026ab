/- Walks: whether two values are the same: wValue. -/
import Derived.Test.YtfpdoafpimaoaaaDd
import Derived.Laws.StructEq
import Derived.Deep.QuietTactic
namespace Go.Proofs.Ytfpdoafpimaoaaa.Vl
open Go.RowKit T.atoms T.ok T.high T.good T.allPlain

theorem neq_atom (k n q k' n' q' : Int) (s s' : ByteArray) (w : World) : (binOp .neq 55 (.agg #[.int .i64 k, .int .i64 n, .string s, .int .i64 q]) (.agg #[.int .i64 k', .int .i64 n', .string s', .int .i64 q'])).run Try.prog w = .ok (.bool (!(k == k' && (n == n' && ((s.toList == s'.toList) && q == q'))))) w := by
  have u1 := Try.underlying3
  have u2 := Try.underlying2
  have u3 := Try.underlying9
  have hS : Try.prog.underlying 55 = some (.struct (Try.prog.fieldsOf 55)) := by kernel_rfl
  have hp : Try.prog.stoodInHeld 55 = false := by kernel_rfl
  rw [run_neq_struct, show (10000 : Nat) = 9999 + 1 from rfl, run_equalIn_agg w 9999 55 _ _ hS hp]
  simp only [Program.fieldsOf, Try.underlying55]
  go_simp
  by_cases h1 : k = k' <;> by_cases h2 : n = n' <;> by_cases h3 : s.toList = s'.toList <;> by_cases h4 : q = q' <;> simp [h1, h2, h3, h4]
theorem neq_same (x : At) (w : World) : (binOp .neq 55 (.agg #[.int .i64 x.kind, .int .i64 x.n, .string x.text, .int .i64 x.kids]) (.agg #[.int .i64 x.kind, .int .i64 x.n, .string x.text, .int .i64 x.kids])).run Try.prog w = .ok (.bool false) w := by
  rw [neq_atom]; simp
theorem neq_other (x y : At) (h : x ≠ y) (w : World) : (binOp .neq 55 (.agg #[.int .i64 x.kind, .int .i64 x.n, .string x.text, .int .i64 x.kids]) (.agg #[.int .i64 y.kind, .int .i64 y.n, .string y.text, .int .i64 y.kids])).run Try.prog w = .ok (.bool true) w := by
  rw [neq_atom]
  have : (x.kind == y.kind && (x.n == y.n && ((x.text.toList == y.text.toList) && x.kids == y.kids))) = false := by
    rw [← Bool.not_eq_true]
    intro e
    simp only [Bool.and_eq_true, beq_iff_eq] at e
    obtain ⟨e1, e2, e3, e4⟩ := e
    apply h
    obtain ⟨xk, xn, ⟨⟨xt⟩⟩, xq⟩ := x
    obtain ⟨yk, yn, ⟨⟨yt⟩⟩, yq⟩ := y
    simp only at e1 e2 e3 e4
    rw [Lib.toList_data, Lib.toList_data] at e3
    simp at e3
    rw [e1, e2, e3, e4]
  rw [this]; rfl
set_option maxRecDepth 100000 in
set_option maxHeartbeats 4000000 in
theorem wValue_any (l l' : List At) (g g' c c' : Nat) (w : World) (hl : l.length ≤ 1048576) (hl' : l'.length ≤ 1048576) (ha : AtomsO w g 0 l) (hb : AtomsO w g' 0 l') (same : Bool) (hs : same = true ↔ l = l') :
    Calls Try.prog 11 #[.agg #[.slice (some ⟨g, 0, none⟩) l.length c], .agg #[.slice (some ⟨g', 0, none⟩) l'.length c']] w fun e w' => e = .returned (.bool same) ∧ Below w.heap.size w w' := by
  have b2 : Below w.heap.size w ((w.alloc (.cells #[.slice (some ⟨g, 0, none⟩) l.length c] 25)).alloc (.cells #[.slice (some ⟨g', 0, none⟩) l'.length c'] 25)) := ((Below.refl _ _).alloc (Nat.le_refl _) _).alloc (by simp) _
  have HA := hide ha
  have HB := hide hb
  have x0 : Hid ((((w.alloc (.cells #[.slice (some ⟨g, 0, none⟩) l.length c] 25)).alloc (.cells #[.slice (some ⟨g', 0, none⟩) l'.length c'] 25)).cell? ⟨w.heap.size, 0, none⟩ = some (.slice (some ⟨g, 0, none⟩) l.length c)) ∧ (((w.alloc (.cells #[.slice (some ⟨g, 0, none⟩) l.length c] 25)).alloc (.cells #[.slice (some ⟨g', 0, none⟩) l'.length c'] 25)).cell? ⟨w.heap.size + 1, 0, none⟩ = some (.slice (some ⟨g', 0, none⟩) l'.length c'))) := hide (by
    have n1 := cell_new w (.slice (some ⟨g, 0, none⟩) l.length c) 25
    have n2 := cell_new (w.alloc (.cells #[.slice (some ⟨g, 0, none⟩) l.length c] 25)) (.slice (some ⟨g', 0, none⟩) l'.length c') 25
    have k2 : Below (w.heap.size + 1) (w.alloc (.cells #[.slice (some ⟨g, 0, none⟩) l.length c] 25)) ((w.alloc (.cells #[.slice (some ⟨g, 0, none⟩) l.length c] 25)).alloc (.cells #[.slice (some ⟨g', 0, none⟩) l'.length c'] 25)) := (Below.refl _ _).alloc (by simp) _
    simp only [World.size_alloc] at n2
    exact ⟨(k2.cell (p := ⟨w.heap.size, 0, none⟩) (Nat.lt_succ_self _)).trans n1.1, n2.1⟩)
  clear ha hb
  by_cases hlen : l.length = l'.length
  · have HLEN := hide hlen
    have hd : ((l.length : Int) == (l'.length : Int)) = true := by rw [hlen]; simp
    have hd2 : ((l.length : Int) != (l'.length : Int)) = false := by rw [hlen]; simp
    clear hlen
    go_enter Try.func11, Try.ntmps11
    go_wp2_with fail
    go_loopw [5] (fun t wr => ∃ i : Nat, i ≤ l.length ∧ t = .int .i64 (i : Int) ∧ Below w.heap.size w wr ∧ wr.cell? ⟨w.heap.size, 0, none⟩ = some (.slice (some ⟨g, 0, none⟩) l.length c) ∧ wr.cell? ⟨w.heap.size + 1, 0, none⟩ = some (.slice (some ⟨g', 0, none⟩) l'.length c') ∧ ∀ j, j < i → l[j]? = l'[j]?) (fun t _ => l.length - (intOf t).toNat)
    case atStart => exact ⟨0, Nat.zero_le _, rfl, b2, x0.out.1, x0.out.2, fun j hj => by omega⟩
    case round =>
      obtain ⟨i, hi, rfl, hB, k0, k1, hall⟩ := hrel
      have HALL := hide hall
      clear hall
      by_cases hlt : i < l.length
      · have hlt' : i < l'.length := by have := HLEN.out; omega
        obtain ⟨a0, a1, a2, a3⟩ := (HA.out.below hB).2 i hlt
        obtain ⟨d0, d1, d2, d3⟩ := (HB.out.below hB).2 i hlt'
        simp only [Nat.zero_add] at a0 a1 a2 a3 d0 d1 d2 d3
        by_cases hxy : l[i] = l'[i]
        · have HN : Hid (l[i]? = l'[i]?) := hide (by rw [List.getElem?_eq_getElem hlt, List.getElem?_eq_getElem hlt', hxy])
          rw [← hxy] at d0 d1 d2 d3
          have hnq := neq_same l[i]
          clear hxy
          generalize l[i] = x at *
          have hlI' : (i : Int) < (l'.length : Int) := by omega
          have hlI : (i : Int) < (l.length : Int) := by omega
          go_wp2_with fail
          have hlI2 : (i : Int) < (l'.length : Int) := by omega
          go_quiet (fail)
          go_wp2
          go_roundw
          case rel => exact ⟨i + 1, by omega, by go_num, below_drewN hB _, k0, k1, fun j hj => by
            by_cases hji : j = i
            · rw [hji]; exact HN.out
            · exact HALL.out j (by omega)⟩
          case measure => simp [intOf]; omega
        · have hne : same = false := by
            cases same
            · rfl
            · exact absurd (by have := hs.1 rfl; subst this; rfl) hxy
          subst hne
          have hnq := neq_other _ _ hxy
          clear hxy hs
          generalize l[i] = x at *
          generalize l'[i] = y at *
          have hlI' : (i : Int) < (l'.length : Int) := by omega
          go_wp2_with fail
          have hlI2 : (i : Int) < (l'.length : Int) := by omega
          go_quiet (fail)
          go_wp2
          go_ret
          exact ⟨rfl, below_drewN hB _⟩
      · have hst : same = true := hs.2 (List.ext_getElem? (fun j => by
          by_cases hj : j < i
          · exact HALL.out j hj
          · rw [List.getElem?_eq_none (by omega), List.getElem?_eq_none (by have := HLEN.out; omega)]))
        subst hst
        go_wp2
        go_ret
        exact ⟨rfl, hB⟩
  · have hd : ((l.length : Int) == (l'.length : Int)) = false := by
      rw [beq_eq_false_iff_ne]; omega
    have hne : same = false := by cases same; rfl; exact absurd (congrArg List.length (hs.1 rfl)) hlen
    subst hne
    go_enter Try.func11, Try.ntmps11
    go_wp2
    go_ret
    exact ⟨rfl, b2⟩
end Go.Proofs.Ytfpdoafpimaoaaa.Vl
