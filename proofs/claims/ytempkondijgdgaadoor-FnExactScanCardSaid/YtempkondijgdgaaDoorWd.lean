/- Walks: texts, on the specification's side. -/
import Derived.Test.YtempkondijgdgaaDoorWc
import Derived.Deep.QuietTactic
import Derived.BigQuiet
import Derived.Laws.BytesArg
namespace Go.Proofs.YtempkondijgdgaaDoor
open Go.RowKit

namespace Sc
theorem unq_nil : unq [] = none := rfl
theorem unq_34 {b : UInt8} (r : List UInt8) (h : b.toNat = 34) : unq (b :: r) = some ([], 1) := by unfold unq; rw [if_pos h]
theorem unq_92s {b : UInt8} (r : List UInt8) (h : b.toNat = 92) (hr : r.length < 2) : unq (b :: r) = none := by
  unfold unq; rw [if_neg (by omega), if_pos h]
  match r, hr with
  | [], _ => rfl
  | [_], _ => rfl
theorem unq_92n {b x y : UInt8} (r : List UInt8) (h : b.toNat = 92) (hx : hexv x < 0 ∨ hexv y < 0) : unq (b :: x :: y :: r) = none := by
  unfold unq; rw [if_neg (by omega), if_pos h]
  simp only; rw [if_pos hx]
theorem unq_92 {b x y : UInt8} (r : List UInt8) (h : b.toNat = 92) (hx : ¬ hexv x < 0) (hy : ¬ hexv y < 0) :
    unq (b :: x :: y :: r) = (unq r).map fun p => (UInt8.ofNat (16 * hexv x + hexv y).toNat :: p.1, p.2 + 3) := by
  conv => lhs; unfold unq
  rw [if_neg (by omega), if_pos h]
  simp only; rw [if_neg (by omega)]
theorem unq_out {b : UInt8} (r : List UInt8) (h1 : b.toNat ≠ 34) (h2 : b.toNat ≠ 92) (h : b.toNat < 32 ∨ 126 < b.toNat) : unq (b :: r) = none := by
  unfold unq; rw [if_neg h1, if_neg h2, if_pos h]
theorem unq_in {b : UInt8} (r : List UInt8) (h1 : b.toNat ≠ 34) (h2 : b.toNat ≠ 92) (h : ¬ (b.toNat < 32 ∨ 126 < b.toNat)) : unq (b :: r) = (unq r).map fun p => (b :: p.1, p.2 + 1) := by
  conv => lhs; unfold unq
  rw [if_neg h1, if_neg h2, if_neg h]
theorem hexv_le (b : UInt8) : -1 ≤ hexv b ∧ hexv b ≤ 15 := by unfold hexv; split <;> (try split) <;> omega
def bytesOf (t : List UInt8) : List Value := t.map fun c => Value.int .u8 c.toNat
theorem bytesOf_snoc (t : List UInt8) (c : UInt8) : bytesOf (t ++ [c]) = bytesOf t ++ [.int .u8 c.toNat] := by simp [bytesOf]
theorem strOf (t : List UInt8) : strOfNums (t.map fun c => (c.toNat : Int)) = ⟨t.toArray⟩ := by
  unfold strOfNums; simp [List.map_map, Function.comp_def]
end Sc

theorem Tryd.info5 : (Tryd.prog.info? 5).map (fun i => (i.zero, i.size, i.bytes)) = some (some (.int .u8 0), 1, 1) := by kernel_rfl

/-- 'string(out)' of a row of the call's own. -/
theorem conv_own {w : World} {base g cap : Nat} {t : List UInt8} (h : w.ownsRow base 5 1 (.slice (some ⟨g, 0, none⟩) t.length cap) t.length (Sc.bytesOf t)) :
    (convert 52 9 (.slice (some ⟨g, 0, none⟩) t.length cap)).run Tryd.prog w = .ok (.string ⟨t.toArray⟩) w := by
  have := run_convert_bytes_arg (P := Tryd.prog) w 52 5 Tryd.underlying52 Tryd.underlying5 g 0 t.length cap (t.map fun c => (c.toNat : Int)) (by simp) (fun i hi => by
    rw [Nat.zero_add, h.cellAt i (by omega)]; simp [Sc.bytesOf, hi]) 9 Tryd.underlying9
  rw [this, Sc.strOf]

theorem below_drewN {B : Nat} {a w : World} (h : Below B a w) (n : Nat) : Below B a (w.drewN n) := ⟨h.os, h.tape, h.output, h.size, h.block⟩

theorem row_succ {W : World} {base : Nat} {e : TypeId} {size : Nat} {v : Value} {k : Nat} {xs : List Value} (h : W.ownsRow base e size v (k + 1) xs) : ∃ g cap, v = .slice (some ⟨g, 0, none⟩) (k + 1) cap := by
  rcases h.2 with ⟨_, h0⟩ | ⟨g, cap, _, hv, _⟩
  · omega
  · exact ⟨g, cap, hv⟩

/-- Behind 'out = append(out, c)'. -/
theorem app_step {w wr w1 : World} {g cap : Nat} {t : List UInt8} {c : UInt8} {v' : Value} {o : Obj} (hown : wr.ownsRow w.heap.size 5 1 (.slice (some ⟨g, 0, none⟩) t.length cap) t.length (Sc.bytesOf t)) (hB : Below w.heap.size w wr)
    (hown' : w1.ownsRow w.heap.size 5 1 v' (t.length + 1) (Sc.bytesOf t ++ [.int .u8 c.toNat])) (hg : (wr.alloc o).grownBy w1 (Value.slice (some ⟨g, 0, none⟩) t.length cap).ownBlock) :
    ∃ g' cap', v' = .slice (some ⟨g', 0, none⟩) (t.length + 1) cap' ∧ w1.ownsRow w.heap.size 5 1 (.slice (some ⟨g', 0, none⟩) (t ++ [c]).length cap') (t ++ [c]).length (Sc.bytesOf (t ++ [c])) ∧ Below w.heap.size w w1 := by
  obtain ⟨g', cap', rfl⟩ := row_succ hown'
  refine ⟨g', cap', rfl, by rw [Sc.bytesOf_snoc, List.length_append]; exact hown', (hB.alloc hB.size _).grown hg (by have := hB.size; simp; omega) (fun k e => ?_)⟩
  exact (hown.lt k e).1

/-- What l1Unquote hands back. -/
def unqOut (k : Nat) (r : Option (List UInt8 × Nat)) : Value :=
  match r with
  | none => .tuple #[.string ⟨#[]⟩, .int .i64 0, .bool false]
  | some p => .tuple #[.string ⟨p.1.toArray⟩, .int .i64 ((k : Int) + 1 + p.2), .bool true]

theorem hexb {x y : Int} (hx0 : 0 ≤ x) (hx : x ≤ 15) (hy0 : 0 ≤ y) (hy : y ≤ 15) : ((UInt8.ofNat (16 * x + y).toNat).toNat : Int) = 16 * x + y := by
  rw [UInt8.toNat_ofNat']; omega

theorem unq_ret {k j : Nat} {t : List UInt8} (h : k + 1 ≤ j) : Ending.returned (.tuple #[.string ⟨t.toArray⟩, .int .i64 ((j : Int) + 1), .bool true]) = .returned (unqOut k (some (t, j - k))) := by
  unfold unqOut; simp; omega

set_option maxRecDepth 100000 in
set_option maxHeartbeats 1000000 in
theorem unquote_any (s : ByteArray) (k : Nat) (a : Int) (w : World) (hs : s.size ≤ 1048576) (hk : k < s.size) (ha : a = (k : Int)) :
    Calls Tryd.prog 21 #[.string s, .int .i64 a] w fun e w' => e = .returned (unqOut k (Sc.unq (s.data.toList.drop (k + 1)))) ∧ Below w.heap.size w w' := by
  subst ha
  obtain ⟨i0, hi, hz0, hz1, hz2⟩ := info_parts Tryd.info5
  go_enter Tryd.func21, Tryd.ntmps21
  go_wp2
  go_loopw [7, 8] (fun v i wr => ∃ (j : Nat) (t : List UInt8) (g cap : Nat), k + 1 ≤ j ∧ j ≤ s.size ∧ i = .int .i64 j ∧ v = .slice (some ⟨g, 0, none⟩) t.length cap ∧ wr.ownsRow w.heap.size 5 1 (.slice (some ⟨g, 0, none⟩) t.length cap) t.length (Sc.bytesOf t) ∧ Below w.heap.size w wr ∧ t.length ≤ j ∧
      Sc.unq (s.data.toList.drop (k + 1)) = (Sc.unq (s.data.toList.drop j)).map fun p => (t ++ p.1, p.2 + (j - (k + 1)))) (fun _ i _ => s.size - (intOf i).toNat)
  case atStart =>
    exact ⟨k + 1, [], w.heap.size, 0, Nat.le_refl _, hk, by go_num, rfl, World.ownsRow_lit w #[] 0 (Nat.le_refl _) (Nat.zero_le _) rfl, (Below.refl _ _).alloc (Nat.le_refl _) _, Nat.zero_le _, by simp⟩
  case round =>
    obtain ⟨j, t, g, cap, hkj, hj, rfl, rfl, hown, hB, htl, he⟩ := hrel
    have HE := hide he
    clear he
    have hsz := hB.size
    by_cases hlt : j < s.size
    · have hd := hide (Sc.drop_cons s j hlt)
      cases h34 : ((s[j].toNat : Int) == 34)
      · have H34 : Hid (s[j].toNat ≠ 34) := by simp at h34; exact hide (by omega)
        cases h92 : ((s[j].toNat : Int) == 92)
        · have H92 : Hid (s[j].toNat ≠ 92) := by simp at h92; exact hide (by omega)
          by_cases hlo : (s[j].toNat : Int) < 32
          · have HF : Hid (Sc.unq (s.data.toList.drop (k + 1)) = none) := hide (by rw [HE.out, hd.out, Sc.unq_out _ H34.out H92.out (.inl (by omega))]; rfl)
            go_wp2
            go_ret3
            exact ⟨by rw [HF.out]; rfl, hB⟩
          · by_cases hhi : 126 < (s[j].toNat : Int)
            · have HF : Hid (Sc.unq (s.data.toList.drop (k + 1)) = none) := hide (by rw [HE.out, hd.out, Sc.unq_out _ H34.out H92.out (.inr (by omega))]; rfl)
              go_wp2
              go_ret3
              exact ⟨by rw [HF.out]; rfl, hB⟩
            · go_wp2_with (at_builtin; refine wpList_append_own _ rfl _ _ 52 rfl w.heap.size 5 i0 (.int .u8 0) 1 1 Tryd.underlying52 hi hz0 hz1 hz2 rfl (by decide) _ _ _ rfl (hown.alloc _) ⟨wr.heap.size, 0, none⟩ 1 1 [.int .u8 s[j].toNat] rfl rfl (cell_one_new _ _ _) (by simp [Value.oneCell']) ?_ ?_ ?_ ?_)
              · unfold maxLen; omega
              · omega
              · first | omega | (simp; omega)
              · intro v' w1 hown' hgrow _
                obtain ⟨g', cap', rfl, ho2, hb2⟩ := app_step hown hB hown' hgrow
                clear hown' hgrow hown
                go_wp2
                go_roundw
                case rel =>
                  refine ⟨j + 1, t ++ [s[j]], g', cap', by omega, by omega, by go_num, by simp, ho2, hb2, by simp; omega, ?_⟩
                  rw [HE.out, hd.out, Sc.unq_in _ H34.out H92.out (by omega), Option.map_map]
                  congr 1; funext p; simp; omega
                case measure => simp [intOf]; omega
        · have H92 : Hid (s[j].toNat = 92) := by simp at h92; exact hide (by omega)
          by_cases h2 : s.size ≤ j + 2
          · have HF : Hid (Sc.unq (s.data.toList.drop (k + 1)) = none) := hide (by rw [HE.out, hd.out, Sc.unq_92s _ H92.out (by simp; omega)]; rfl)
            go_wp2
            go_ret3
            exact ⟨by rw [HF.out]; rfl, hB⟩
          · have hd2 := hide (show s.data.toList.drop j = s[j] :: s[j + 1] :: s[j + 2] :: s.data.toList.drop (j + 3) by rw [Sc.drop_cons s j hlt, Sc.drop_cons s (j + 1) (by omega), Sc.drop_cons s (j + 2) (by omega)])
            have hx1 := Sc.hexv_le s[j + 1]
            have hx2 := Sc.hexv_le s[j + 2]
            obtain ⟨hx1a, hx1b⟩ := hx1
            obtain ⟨hx2a, hx2b⟩ := hx2
            by_cases hn1 : Sc.hexv s[j + 1] < 0
            · have HF : Hid (Sc.unq (s.data.toList.drop (k + 1)) = none) := hide (by rw [HE.out, hd2.out, Sc.unq_92n _ H92.out (.inl hn1)]; rfl)
              go_wp2_with (go_at_call 27; refine (hex_any _ _).mono ?_; rintro e w' ⟨rfl, rfl⟩)
              go_ret3
              exact ⟨by rw [HF.out]; rfl, hB⟩
            · by_cases hn2 : Sc.hexv s[j + 2] < 0
              · have HF : Hid (Sc.unq (s.data.toList.drop (k + 1)) = none) := hide (by rw [HE.out, hd2.out, Sc.unq_92n _ H92.out (.inr hn2)]; rfl)
                go_wp2_with (go_at_call 27; refine (hex_any _ _).mono ?_; rintro e w' ⟨rfl, rfl⟩)
                go_ret3
                exact ⟨by rw [HF.out]; rfl, hB⟩
              · go_wp2_with (go_at_call 27; refine (hex_any _ _).mono ?_; rintro e w' ⟨rfl, rfl⟩)
                go_quiet ((go_at_call 27; exact Calls.quiet_of_same (hex_any _ _)))
                have hown2 : (w'.drewN nq).ownsRow w.heap.size 5 1 (.slice (some ⟨g, 0, none⟩) t.length cap) t.length (Sc.bytesOf t) := hown
                have hB2 : Below w.heap.size w (w'.drewN nq) := below_drewN hB nq
                go_wp2_with (at_builtin; refine wpList_append_own _ rfl _ _ 52 rfl w.heap.size 5 i0 (.int .u8 0) 1 1 Tryd.underlying52 hi hz0 hz1 hz2 rfl (by decide) _ _ _ rfl (hown2.alloc _) ⟨w'.heap.size, 0, none⟩ 1 1 [.int .u8 (16 * Sc.hexv s[j + 1] + Sc.hexv s[j + 2])] rfl rfl (cell_one_new _ _ _) (by simp [Value.oneCell']) ?_ ?_ ?_ ?_)
                · unfold maxLen; omega
                · omega
                · first | omega | (simp; omega)
                · intro v' w1 hown' hgrow _
                  rw [← hexb (by omega) hx1b (by omega) hx2b] at hown'
                  obtain ⟨g', cap', rfl, ho2, hb2⟩ := app_step hown2 hB2 hown' hgrow
                  clear hown' hgrow hown hown2 hB2
                  go_wp2
                  go_roundw
                  case rel =>
                    refine ⟨j + 3, _, g', cap', by omega, by omega, by go_num, by simp, ho2, hb2, by simp; omega, ?_⟩
                    rw [HE.out, hd2.out, Sc.unq_92 _ H92.out (by omega) (by omega), Option.map_map]
                    congr 1; funext p; simp; omega
                  case measure => simp [intOf]; omega
      · have hcv := conv_own hown
        have HF : Hid (Sc.unq (s.data.toList.drop (k + 1)) = some (t, j - k)) := hide (by rw [HE.out, hd.out, Sc.unq_34 _ (by simp at h34; omega)]; simp; omega)
        go_wp2
        go_ret3
        exact ⟨by rw [HF.out]; exact unq_ret hkj, hB⟩
    · have HF : Hid (Sc.unq (s.data.toList.drop (k + 1)) = none) := hide (by rw [HE.out, List.drop_of_length_le (i := j) (by simp; omega)]; rfl)
      go_wp2
      go_ret3
      exact ⟨by rw [HF.out]; rfl, hB⟩
end Go.Proofs.YtempkondijgdgaaDoor
