/- Walks: texts that are drawn. -/
import Derived.Test.YtfpdoafpimaoaaaDb
namespace Go.Proofs.Ytfpdoafpimaoaaa.Vl
open Go.RowKit T.atoms T.ok T.high T.good T.allPlain

theorem Dr.frozen {rb : Nat} {w w' : World} (h : Dr rb w w') {b o : Nat} (h1 : b < w.heap.size) (h2 : b ≠ rb) : w'.frozen? ⟨b, o, none⟩ = w.frozen? ⟨b, o, none⟩ := World.frozen?_of_block (h.block b h1 h2)

theorem half_odd (a b j : Nat) (h : j % 2 = 1) : (b + a) + (a + a) * (j / 2) = b + a * j := by
  have e : j = 2 * (j / 2) + 1 := by omega
  generalize j / 2 = k at *
  subst e
  rw [Nat.mul_add, Nat.add_mul, Nat.mul_one, Nat.mul_comm 2 k, ← Nat.mul_assoc, Nat.mul_two]
  omega
theorem half_even (a j : Nat) (h : ¬ j % 2 = 1) : (a + a) * (j / 2) = a * j := by
  have e : j = 2 * (j / 2) := by omega
  generalize j / 2 = k at *
  subst e
  rw [Nat.add_mul, Nat.mul_comm 2 k, ← Nat.mul_assoc, Nat.mul_two]
set_option maxRecDepth 100000 in
set_option maxHeartbeats 1000000 in
theorem many_any (s : ByteArray) (n : Nat) (w : World) (hn9 : n ≤ 1000000) (hs : s.size * n ≤ 100000000) :
    Calls Try.prog 66 #[.string s, .int .i64 (n : Int)] w fun e w' => ∃ t, e = .returned (.string t) ∧ w' = w := by
  go_enter Try.func66, Try.ntmps66
  go_wp2
  go_loop [0, 1, 5] (fun a t o => ∃ (j : Nat) (x y : ByteArray), j ≤ n ∧ a = .string x ∧ t = .int .i64 (j : Int) ∧ o = .string y ∧ y.size + x.size * j ≤ 100000000) (fun _ t _ => (intOf t).toNat)
  case atStart => exact ⟨n, s, _, Nat.le_refl _, rfl, rfl, rfl, by show 0 + s.size * n ≤ 100000000; omega⟩
  case round =>
    obtain ⟨j, x, y, hj, rfl, rfl, rfl, hb⟩ := hrel
    by_cases h0 : 0 < j
    · have hxj : x.size ≤ x.size * j := Nat.le_mul_of_pos_right _ h0
      have hx1 : x.size ≤ 100000000 := by omega
      have hy1 : y.size ≤ 100000000 := by omega
      have HB := hide hb
      clear hb hxj
      by_cases h1 : j % 2 = 1
      · have HH := hide (half_odd x.size y.size j h1)
        have e1 : (j : Int) % 2 = 1 := by omega
        go_wp2
        go_round
        case rel => exact ⟨j / 2, _, _, by omega, rfl, by go_num, rfl, by rw [ByteArray.size_append, ByteArray.size_append, HH.out]; exact HB.out⟩
        case measure => simp [intOf]; omega
      · have HH := hide (half_even x.size j h1)
        have e1 : ((j : Int) % 2 == 1) = false := by simp; omega
        go_wp2
        go_round
        case rel => exact ⟨j / 2, _, _, by omega, rfl, by go_num, rfl, by rw [ByteArray.size_append, HH.out]; exact HB.out⟩
        case measure => simp [intOf]; omega
    · go_wp2
      go_ret
      first | exact ⟨_, rfl, rfl⟩ | exact ⟨⟨_, rfl⟩, rfl⟩ | simp

/-- What a draw of a text does. -/
def TextPost (rb : Nat) (vb : Value) (n p k : Nat) (w : World) (e : Ending) (w' : World) : Prop := ∃ t q, e = .returned (.string t) ∧ q ≤ p + k ∧ Rd w' rb vb n q ∧ Dr rb w w'
set_option maxRecDepth 100000 in
set_option maxHeartbeats 2000000 in
theorem drawText_any (rb n p : Nat) (vb : Value) (w : World) (h : Rd w rb vb n p) (hp : p ≤ 999999000) :
    Calls Try.prog 68 #[.pointer (some ⟨rb, 0, none⟩)] w fun e w' => TextPost rb vb n p 7 w e w' := by
  have HP := hide (fun p w (h : Rd w rb vb n p) (hp : p ≤ 1000000000) m (h1 : 1 ≤ m) (h2 : m ≤ 1000000) => pick_any rb n p vb m w h hp h1 h2)
  have HR := hide h
  clear h
  go_enter Try.func68, Try.ntmps68
  go_wp2_with fail
  refine (HP.out p _ HR.out (by omega) 10 (by omega) (by omega)).mono ?_
  rintro e w1 ⟨z, hz, rfl, R1, D1⟩
  have HR1 := hide R1
  have HD1 := hide D1
  clear R1 D1 HR
  go_wp2_with fail
  all_goals first
    | (go_ret; exact ⟨_, p + 1, rfl, by omega, HR1.out, HD1.out⟩)
    | skip
  refine (HP.out (p + 1) _ HR1.out (by omega) 4 (by omega) (by omega)).mono ?_
  rintro e w2 ⟨z2, hz2, rfl, R2, D2⟩
  have HR2 := hide R2
  have HD2 := hide (HD1.out.trans D2)
  clear R2 D2 HR1 HD1
  go_wp2_with fail
  go_loopw [3, 4] (fun o t wr => ∃ (j q : Nat) (x : ByteArray), o = .string x ∧ t = .int .i64 ((j : Int) - 1) ∧ x.size + j ≤ 5 ∧ j ≤ z2 + 1 ∧ q + j ≤ p + 3 + z2 ∧ Rd wr rb vb n q ∧ Dr rb w wr) (fun _ t _ => (intOf t + 1).toNat)
  case atStart => exact ⟨z2 + 1, p + 1 + 1, _, rfl, by congr 1; omega, by show 0 + (z2 + 1) ≤ 5; omega, by omega, by omega, HR2.out, HD2.out⟩
  case round =>
    obtain ⟨j, q, x, rfl, rfl, hxj, hj, hq, hR, hD⟩ := hrel
    have hx5 : x.size ≤ 5 := by omega
    have HR3 := hide hR
    have HD3 := hide hD
    clear hR hD
    by_cases h0 : 1 ≤ j
    · have h1 : (0 : Int) ≤ (j : Int) - 1 := by omega
      go_wp2_with fail
      refine (HP.out q _ HR3.out (by omega) 4 (by omega) (by omega)).mono ?_
      rintro e w4 ⟨z4, hz4, rfl, R4, D4⟩
      have HR4 := hide R4
      have HD4 := hide (HD3.out.trans D4)
      clear R4 D4 HR3 HD3
      have h4 : z4 = 0 ∨ z4 = 1 ∨ z4 = 2 ∨ z4 = 3 := by omega
      rcases h4 with rfl | rfl | rfl | rfl
      all_goals
        go_wp2
        go_roundw
        case rel => exact ⟨j - 1, q + 1, _, rfl, by congr 1; omega, by rw [ByteArray.size_append]; show x.size + 1 + (j - 1) ≤ 5; omega, by omega, by omega, HR4.out, HD4.out⟩
        case measure => simp [intOf]; omega
    · have h1 : ¬ (0 : Int) ≤ (j : Int) - 1 := by omega
      go_wp2
      go_ret
      exact ⟨_, q, rfl, by omega, HR3.out, HD3.out⟩
end Go.Proofs.Ytfpdoafpimaoaaa.Vl
