/- Joined: Eh, Lm, Lb. -/
import Derived.Test.YtnkfbjcgkdblgaaGreatG19
import Derived.WalkKit
import Derived.WalkSmall
import Derived.Test.YtnkfbjcgkdblgaaGreatProg
import Derived.WalkSpells
import Derived.WalkLawsBesides
import Derived.Deep.DeepFit
import Derived.Deep.DeepMust
import Derived.Deep.QuietTactic
namespace Go.Proofs.YtnkfbjcgkdblgaaGreat.Vl
open Go.RowKit T.atoms T.ok T.high T.good T.allPlain DatAt T.ord

def tyW : List UInt8 := [116, 121, 112, 101]
def Out.isTy : Out → Bool
  | .inl l => l == tyW
  | .inr _ => false
def eitherOut : List Out → Out
  | [] => .inl tyW
  | o :: r => if o.isTy then eitherOut r else o
theorem either_all : ∀ (l : List Out), (∀ j (h : j < l.length), (l[j]).isTy = true) → eitherOut l = .inl tyW
  | [], _ => rfl
  | o :: r, h => by
    rw [eitherOut, if_pos (show o.isTy = true from h 0 (by simp))]
    exact either_all r (fun j hj => h (j + 1) (by simpa using hj))
theorem either_at : ∀ (l : List Out) (i : Nat) (hi : i < l.length), (∀ j (h : j < l.length), j < i → (l[j]).isTy = true) → (l[i]).isTy = false → eitherOut l = l[i]
  | o :: r, 0, _, _, h => by
    rw [eitherOut, if_neg (by rw [show (o :: r)[0] = o from rfl] at h; rw [h]; decide)]; rfl
  | o :: r, i + 1, hi, h, h2 => by
    rw [eitherOut, if_pos (show o.isTy = true from h 0 (by simp) (by omega))]
    exact either_at r i (by simpa using hi) (fun j hj hji => h (j + 1) (by simpa using hj) (by omega)) h2
theorem DoK.shape {W w' : World} {out : Out} {dv : Value} {s : ByteArray} (h : DoK W out dv s w') : Below W.heap.size W w' ∧ (out.isTy = true → s = ⟨#[116, 121, 112, 101]⟩) ∧ (out.isTy = false → (s.toList == [116, 121, 112, 101]) = false) := by
  cases out with
  | inl l =>
    obtain ⟨h1, -, rfl⟩ := h
    refine ⟨h1, fun e => ?_, fun e => ?_⟩
    · have : l = tyW := by simpa [Out.isTy] using e
      rw [this]; rfl
    · rw [ByteArray.toList_eq]
      exact e
  | inr t =>
    obtain ⟨h1, rfl, -⟩ := h
    exact ⟨h1, (fun e => by cases e), fun _ => by decide +kernel⟩

set_option maxRecDepth 100000 in
set_option maxHeartbeats 1000000 in
theorem either1_any (ds : List (Nat × Nat)) (outs : List Out) (hl : outs.length = ds.length) (hl9 : ds.length ≤ 100) (d b gg : Nat) (W : World) (hd : d < W.heap.size) (hbc : W.cell? ⟨b, 0, none⟩ = some (.slice (some ⟨d, 0, none⟩) ds.length ds.length))
    (hcs : ∀ i (h : i < ds.length), W.cell? ⟨d, i * 2, none⟩ = some (.int .i64 2) ∧ W.cell? ⟨d, i * 2 + 1, none⟩ = some (.func (.func (ds[i]).1) #[] #[.pointer (some ⟨(ds[i]).2, 0, none⟩)]))
    (hen : ∀ i (h : i < ds.length) args w, (callFunc (ds[i]).1 args).run Tryz.prog w = .ok (.enter (ds[i]).1 args) w)
    (hdo : ∀ i (h : i < ds.length) (ho : i < outs.length) W', Below W.heap.size W W' → Calls Tryz.prog (ds[i]).1 #[.slice (some ⟨gg, 0, none⟩) 2 2, .pointer (some ⟨(ds[i]).2, 0, none⟩)] W' (TupPost (DoK W' (outs[i]'ho)))) :
    Calls Tryz.prog 85 #[.slice (some ⟨gg, 0, none⟩) 2 2, .pointer (some ⟨b, 0, none⟩)] W (TupPost (DoK W (eitherOut outs))) := by
  have HCS := hide hcs
  have HEN := hide hen
  have HDO := hide hdo
  have HEA := hide (either_all outs)
  have HEI := hide (either_at outs)
  have HL := hide hl
  have hsf := run_store_func Tryz.prog
  clear hcs hen hdo hl
  go_enter Tryz.func85, Tryz.ntmps85
  go_wp2
  go_loopw [11] (fun q wr => ∃ i : Nat, i ≤ ds.length ∧ q = .int .i64 i ∧ Below W.heap.size W wr ∧ ∀ j (h : j < outs.length), j < i → (outs[j]).isTy = true) (fun q _ => ds.length - (intOf q).toNat)
  case atStart => exact ⟨0, Nat.zero_le _, rfl, Below.refl _ _, fun j _ h => absurd h (Nat.not_lt_zero _)⟩
  case round =>
    obtain ⟨i, hi, rfl, hB, hno⟩ := hrel
    have HNO := hide hno
    clear hno
    by_cases hlt : i < ds.length
    · obtain ⟨c0, c1⟩ := HCS.out i hlt
      have e0 := (hB.cell (p := ⟨d, i * 2, none⟩) hd).trans c0
      have e1 := (hB.cell (p := ⟨d, i * 2 + 1, none⟩) hd).trans c1
      have hen := HEN.out i hlt
      have hio : i < outs.length := by have := HL.out; omega
      have HC := hide (fun W' hb => HDO.out i hlt hio W' hb)
      have HX : Hid ((outs[i]'hio).isTy = false → eitherOut outs = outs[i]'hio) := hide (HEI.out i hio HNO.out)
      have HN2 : Hid ((outs[i]'hio).isTy = true → ∀ j (h : j < outs.length), j < i + 1 → (outs[j]).isTy = true) := hide (fun h j hj hji => by
        rcases Nat.lt_succ_iff_lt_or_eq.1 hji with q | q
        · exact HNO.out j hj q
        · subst q; exact h)
      generalize outs[i]'hio = out at *
      generalize (ds[i]).1 = f at *
      generalize (ds[i]).2 = k at *
      clear c0 c1
      have hq : Below wr.heap.size wr (wr.alloc (.cells #[.int .i64 2, .func (.func f) #[] #[.pointer (some ⟨k, 0, none⟩)]] 51)) := (Below.refl _ _).alloc (Nat.le_refl _) _
      have HQ := hide (hB.trans (hq.mono hB.size))
      clear hq
      go_wp2_with fail
      refine (HC.out _ HQ.out).mono ?_
      rintro e w2 ⟨dv, s, rfl, hK⟩
      obtain ⟨hb2, hy, hn⟩ := hK.shape
      have B2 := HQ.out.trans (hb2.mono HQ.out.size)
      have HKK := hide (hK.from HQ.out)
      clear hK
      cases hty : out.isTy
      · have hs := hn hty
        have HE := hide (HX.out hty)
        clear hy hn
        go_wp2
        go_ret2
        exact ⟨dv, s, rfl, by rw [HE.out]; exact HKK.out⟩
      · have hs := hy hty
        subst hs
        have HE := hide (HN2.out hty)
        clear hy hn
        go_wp2
        go_roundw
        case rel => exact ⟨i + 1, by omega, by go_num, B2, HE.out⟩
        case measure => simp [intOf]; omega
    · have HE : Hid (eitherOut outs = .inl tyW) := hide (HEA.out (fun j hj => HNO.out j hj (by have := HL.out; omega)))
      go_wp2
      go_ret2
      exact ⟨_, _, rfl, by rw [HE.out]; exact ⟨hB, rfl, rfl⟩⟩
end Go.Proofs.YtnkfbjcgkdblgaaGreat.Vl
namespace Go.Proofs.YtnkfbjcgkdblgaaGreat.Vl
open Go.RowKit
def in64 (x : Int) : Prop := -9223372036854775808 ≤ x ∧ x ≤ 9223372036854775807
theorem wrap_ex (p : Int) : ∃ k : Int, wrap64 p = p + k * 18446744073709551616 ∧ in64 (wrap64 p) := by
  refine ⟨- ((p + 9223372036854775808) / 18446744073709551616), ?_, ?_⟩
  · unfold wrap64; omega
  · unfold in64; unfold wrap64; omega
theorem wrap_id {p : Int} (h : in64 p) : wrap64 p = p := by unfold in64 at h; unfold wrap64; omega
theorem tdiv_bound (z y : Int) (hz : in64 z) (hy : y ≠ 0) (h1 : ¬ (y = -1)) : in64 (z.tdiv y) := by
  unfold in64 at *
  have h := Int.natAbs_tdiv z y
  by_cases hy1 : y = 1
  · subst hy1; rw [Int.tdiv_one]; exact hz
  · have h2 : z.natAbs.div y.natAbs ≤ z.natAbs / 2 := Nat.div_le_div_left (by omega) (by omega)
    omega
theorem tmod_bound (z y : Int) (hy : y ≠ 0) : (z.tmod y).natAbs < y.natAbs := by rw [Int.natAbs_tmod]; exact Nat.mod_lt _ (by omega)
theorem mul_fits (x y : Int) (hx : in64 x) (hy : in64 y) (hy0 : y ≠ 0) : (wrap64 ((wrap64 (x * y)).tdiv y) = x ∧ ¬ (y = -1 ∧ x = -9223372036854775808)) ↔ in64 (x * y) := by
  obtain ⟨k, hk, hz⟩ := wrap_ex (x * y)
  generalize wrap64 (x * y) = z at *
  have hdm := Int.mul_tdiv_add_tmod z y
  have hr := tmod_bound z y hy0
  constructor
  · rintro ⟨h1, h2⟩
    by_cases hm : y = -1
    · subst hm
      unfold in64 at *
      omega
    · rw [wrap_id (tdiv_bound z y hz hy0 hm)] at h1
      rw [h1] at hdm
      rw [Int.mul_comm] at hdm
      generalize x * y = p at *
      unfold in64 at *
      omega
  · intro h
    have hk0 : z = x * y := by
      generalize x * y = p at *
      unfold in64 at *
      omega
    refine ⟨?_, ?_⟩
    · rw [hk0, Int.mul_tdiv_cancel _ hy0]; exact wrap_id hx
    · rintro ⟨rfl, rfl⟩
      unfold in64 at h
      omega
end Go.Proofs.YtnkfbjcgkdblgaaGreat.Vl
namespace Go.Proofs.YtnkfbjcgkdblgaaGreat.Vl
open Go.RowKit

def nWord (l : List UInt8) : ByteArray := ⟨l.toArray⟩
/-- A number, or a word. -/
def numV (r : Option Int) (word : List UInt8) : Value := match r with
  | some n => .tuple #[.iface 103 (.int .i64 n), .string ⟨#[]⟩]
  | none => .tuple #[.nilIface, .string (nWord word)]
def fit64 (p : Int) : Option Int := if -9223372036854775808 ≤ p ∧ p ≤ 9223372036854775807 then some p else none

set_option maxHeartbeats 400000 in
theorem addNumbers_any (x y : Int) (w : World) (hx : in64 x) (hy : in64 y) : Calls Tryz.prog 63 #[.int .i64 x, .int .i64 y] w fun e w' => e = .returned (numV (fit64 (x + y)) [114, 97, 110, 103, 101]) ∧ w' = w := by
  unfold in64 at hx hy
  by_cases hf : -9223372036854775808 ≤ x + y ∧ x + y ≤ 9223372036854775807
  · rw [show fit64 (x + y) = some (x + y) from if_pos hf]
    have hw : wrap64 (x + y) = x + y := by unfold wrap64; omega
    by_cases h0 : y < 0
    · have hp : x + y < x := by omega
      go_enter Tryz.func63, Tryz.ntmps63
      go_wp2
      go_ret2
      exact ⟨rfl, rfl⟩
    · have hp : ¬ x + y < x := by omega
      go_enter Tryz.func63, Tryz.ntmps63
      go_wp2
      go_ret2
      exact ⟨rfl, rfl⟩
  · rw [show fit64 (x + y) = none from if_neg hf]
    obtain ⟨z, hz⟩ : ∃ z, wrap64 (x + y) = z := ⟨_, rfl⟩
    by_cases h0 : y < 0
    · have hp : ¬ z < x := by rw [← hz]; unfold wrap64; omega
      go_enter Tryz.func63, Tryz.ntmps63
      go_wp2
      go_ret2
      exact ⟨rfl, rfl⟩
    · have hp : z < x := by rw [← hz]; unfold wrap64; omega
      go_enter Tryz.func63, Tryz.ntmps63
      go_wp2
      go_ret2
      exact ⟨rfl, rfl⟩
set_option maxHeartbeats 400000 in
theorem subtract_any (x y : Int) (w : World) (hx : in64 x) (hy : in64 y) : Calls Tryz.prog 69 #[.int .i64 x, .int .i64 y] w fun e w' => e = .returned (numV (fit64 (x - y)) [114, 97, 110, 103, 101]) ∧ w' = w := by
  unfold in64 at hx hy
  by_cases hf : -9223372036854775808 ≤ x - y ∧ x - y ≤ 9223372036854775807
  · rw [show fit64 (x - y) = some (x - y) from if_pos hf]
    have hw : wrap64 (x - y) = x - y := by unfold wrap64; omega
    by_cases h0 : y < 0
    · have hp : x < x - y := by omega
      go_enter Tryz.func69, Tryz.ntmps69
      go_wp2
      go_ret2
      exact ⟨rfl, rfl⟩
    · have hp : ¬ x < x - y := by omega
      go_enter Tryz.func69, Tryz.ntmps69
      go_wp2
      go_ret2
      exact ⟨rfl, rfl⟩
  · rw [show fit64 (x - y) = none from if_neg hf]
    obtain ⟨z, hz⟩ : ∃ z, wrap64 (x - y) = z := ⟨_, rfl⟩
    by_cases h0 : y < 0
    · have hp : ¬ x < z := by rw [← hz]; unfold wrap64; omega
      go_enter Tryz.func69, Tryz.ntmps69
      go_wp2
      go_ret2
      exact ⟨rfl, rfl⟩
    · have hp : x < z := by rw [← hz]; unfold wrap64; omega
      go_enter Tryz.func69, Tryz.ntmps69
      go_wp2
      go_ret2
      exact ⟨rfl, rfl⟩
set_option maxHeartbeats 400000 in
theorem multiply_any (x y : Int) (w : World) (hx : in64 x) (hy : in64 y) : Calls Tryz.prog 70 #[.int .i64 x, .int .i64 y] w fun e w' => e = .returned (numV (fit64 (x * y)) [114, 97, 110, 103, 101]) ∧ w' = w := by
  by_cases h0 : x = 0
  · subst h0
    go_enter Tryz.func70, Tryz.ntmps70
    go_wp2
    go_ret2
    exact ⟨by simp [numV, fit64], rfl⟩
  · have hm := mul_fits y x hy hx h0
    rw [Int.mul_comm y x] at hm
    obtain ⟨z, hz⟩ : ∃ z, wrap64 (x * y) = z := ⟨_, rfl⟩
    rw [hz] at hm
    obtain ⟨u, hu⟩ : ∃ u, wrap64 (z.tdiv x) = u := ⟨_, rfl⟩
    rw [hu] at hm
    have hxb : (x != 0) = true := by simpa using h0
    by_cases hf : in64 (x * y)
    · obtain ⟨h5, h2⟩ := hm.2 hf
      rw [h5] at hu
      clear h5
      have hzz : z = x * y := by rw [← hz]; unfold in64 at hf; unfold wrap64; omega
      have HR : Hid (numV (fit64 (x * y)) [114, 97, 110, 103, 101] = .tuple #[.iface 103 (.int .i64 z), .string ⟨#[]⟩]) := (by rw [hzz, show fit64 (x * y) = some (x * y) from if_pos hf]; rfl)
      rw [show numV (fit64 (x * y)) [114, 97, 110, 103, 101] = .tuple #[.iface 103 (.int .i64 z), .string ⟨#[]⟩] from HR]
      clear HR hzz hm hf
      by_cases h1 : x = -1
      · subst h1
        have hz' : wrap64 (-y) = z := by rw [← hz]; congr 1; omega
        have hu' : wrap64 (-z) = y := by rw [← hu, Int.tdiv_neg, Int.tdiv_one]
        have h3 : ¬ y = -9223372036854775808 := fun h => h2 ⟨rfl, h⟩
        have h4 : (y == -9223372036854775808) = false := by simpa using h3
        clear h2
        go_enter Tryz.func70, Tryz.ntmps70
        go_wp2
        go_ret2
        exact ⟨rfl, rfl⟩
      · have h4 : (x == -1) = false := by simpa using h1
        clear h2
        go_enter Tryz.func70, Tryz.ntmps70
        go_wp2
        go_ret2
        exact ⟨rfl, rfl⟩
    · rw [show fit64 (x * y) = none from if_neg hf]
      have h2 : ¬ (u = y ∧ ¬ (x = -1 ∧ y = -9223372036854775808)) := fun h => hf (hm.1 h)
      clear hm hf
      by_cases h1 : u = y
      · have h3 : x = -1 ∧ y = -9223372036854775808 := Classical.byContradiction fun h => h2 ⟨h1, h⟩
        obtain ⟨rfl, rfl⟩ := h3
        have hmn : wrap64 9223372036854775808 = -9223372036854775808 := by unfold wrap64; omega
        clear h2 h1 hu hz
        go_enter Tryz.func70, Tryz.ntmps70
        go_wp2
        go_ret2
        exact ⟨rfl, rfl⟩
      · have h4 : (u != y) = true := by simpa using h1
        clear h2
        go_enter Tryz.func70, Tryz.ntmps70
        go_wp2
        go_ret2
        exact ⟨rfl, rfl⟩

/-- A quotient, and what is left, as the document has them. -/
def mends (x y : Int) : Bool := (x.tmod y != 0) && (decide (x < 0) != decide (y < 0))
def quoV (x y : Int) : Int := if mends x y then x.tdiv y - 1 else x.tdiv y
def remV (x y : Int) : Int := if mends x y then x.tmod y + y else x.tmod y
set_option maxHeartbeats 400000 in
theorem quotient_any (x y : Int) (w : World) (hx : in64 x) (hy : in64 y) : Calls Tryz.prog 71 #[.int .i64 x, .int .i64 y] w fun e w' => e = .returned (if y = 0 then numV none [100, 105, 118, 105, 100, 101] else if x = -9223372036854775808 ∧ y = -1 then numV none [114, 97, 110, 103, 101] else numV (some (quoV x y)) []) ∧ w' = w := by
  by_cases h0 : y = 0
  · subst h0
    rw [if_pos rfl]
    go_enter Tryz.func71, Tryz.ntmps71
    go_wp2
    go_ret2
    exact ⟨rfl, rfl⟩
  · rw [if_neg h0]
    have h0b : (y == 0) = false := by simpa using h0
    by_cases hm : x = -9223372036854775808 ∧ y = -1
    · rw [if_pos hm]
      obtain ⟨rfl, rfl⟩ := hm
      go_enter Tryz.func71, Tryz.ntmps71
      go_wp2
      go_ret2
      exact ⟨rfl, rfl⟩
    · rw [if_neg hm]
      have hb : in64 (x.tdiv y) := by
        by_cases h1 : y = -1
        · subst h1; rw [Int.tdiv_neg, Int.tdiv_one]; unfold in64 at *; omega
        · exact tdiv_bound x y hx h0 h1
      have hw1 : wrap64 (x.tdiv y) = x.tdiv y := wrap_id hb
      have hmb := tmod_bound x y h0
      have hdm := Int.mul_tdiv_add_tmod x y
      have hpre : (x == -9223372036854775808 && y == -1) = false := by
        cases h : (x == -9223372036854775808 && y == -1) with
        | false => rfl
        | true => simp at h; exact (hm h).elim
      have hxb : x = -9223372036854775808 → (y == -1) = false := fun hx' => by
        cases h : (y == -1) with
        | false => rfl
        | true => exact (hm ⟨hx', by simpa using h⟩).elim
      have hsm : x.tmod y ≠ 0 → wrap64 (x.tdiv y - 1) = x.tdiv y - 1 := fun hr => by
        refine wrap_id ?_
        have hne : y.natAbs ≠ 1 := fun h1 => by omega
        have h2 := Int.natAbs_tdiv x y
        have h3 : x.natAbs.div y.natAbs ≤ x.natAbs / 2 := Nat.div_le_div_left (by omega) (by omega)
        unfold in64 at *; omega
      unfold quoV mends
      clear hdm hmb hb
      obtain ⟨q, hq⟩ : ∃ q, x.tdiv y = q := ⟨_, rfl⟩
      obtain ⟨r, hrr⟩ : ∃ r, x.tmod y = r := ⟨_, rfl⟩
      rw [hq] at hw1 hsm
      rw [hrr] at hsm
      rw [hq, hrr]
      generalize hres : numV (some (if (r != 0 && decide (x < 0) != decide (y < 0)) = true then q - 1 else q)) [] = res
      have HRES : Hid (numV (some (if (r != 0 && decide (x < 0) != decide (y < 0)) = true then q - 1 else q)) [] = res) := hres
      clear hres
      have HT : ∀ b : Bool, (x == -9223372036854775808) = b → (b && (y == -1)) = false := fun b hb => by rw [← hb]; exact hpre
      by_cases hr : r = 0
      · subst hr
        cases hxm : (x == -9223372036854775808)
        · go_enter Tryz.func71, Tryz.ntmps71
          go_wp2
          go_ret2
          exact ⟨by rw [← HRES.out]; simp [numV], rfl⟩
        · have hy1 : (y == -1) = false := by have := HT _ hxm; simpa using this
          go_enter Tryz.func71, Tryz.ntmps71
          go_wp2
          go_ret2
          exact ⟨by rw [← HRES.out]; simp [numV], rfl⟩
      · have hrb : (r != 0) = true := by simpa using hr
        have hw3 := hsm hr
        clear hsm hpre hxb
        cases hxm : (x == -9223372036854775808)
        all_goals
          have hy1 := HT _ hxm
          simp only [Bool.false_and, Bool.true_and] at hy1
          cases hdx : decide (x < 0)
          all_goals cases hdy : decide (y < 0)
          all_goals
            have HDX : Hid (decide (x < 0) = _) := hdx
            have HDY : Hid (decide (y < 0) = _) := hdy
          · have hx0 : ¬ x < 0 := by simpa using hdx
            have hy0 : ¬ y < 0 := by simpa using hdy
            go_enter Tryz.func71, Tryz.ntmps71
            go_wp2
            go_ret2
            refine ⟨?_, rfl⟩
            rw [← HRES.out, hrb, HDX.out, HDY.out]
            rfl
          · have hx0 : ¬ x < 0 := by simpa using hdx
            have hy0 : y < 0 := by simpa using hdy
            go_enter Tryz.func71, Tryz.ntmps71
            go_wp2
            go_ret2
            refine ⟨?_, rfl⟩
            rw [← HRES.out, hrb, HDX.out, HDY.out]
            rfl
          · have hx0 : x < 0 := by simpa using hdx
            have hy0 : ¬ y < 0 := by simpa using hdy
            go_enter Tryz.func71, Tryz.ntmps71
            go_wp2
            go_ret2
            refine ⟨?_, rfl⟩
            rw [← HRES.out, hrb, HDX.out, HDY.out]
            rfl
          · have hx0 : x < 0 := by simpa using hdx
            have hy0 : y < 0 := by simpa using hdy
            go_enter Tryz.func71, Tryz.ntmps71
            go_wp2
            go_ret2
            refine ⟨?_, rfl⟩
            rw [← HRES.out, hrb, HDX.out, HDY.out]
            rfl

theorem tmod_sign (x y : Int) : (x < 0 → x.tmod y ≤ 0) ∧ (¬ x < 0 → 0 ≤ x.tmod y) := by
  refine ⟨fun h => ?_, fun h => Int.tmod_nonneg _ (by omega)⟩
  have h1 : 0 ≤ (-x).tmod y := Int.tmod_nonneg _ (by omega)
  rw [Int.neg_tmod] at h1
  omega
set_option maxHeartbeats 400000 in
theorem remainder_any (x y : Int) (w : World) (hy : in64 y) : Calls Tryz.prog 72 #[.int .i64 x, .int .i64 y] w fun e w' => e = .returned (if y = 0 then numV none [100, 105, 118, 105, 100, 101] else numV (some (remV x y)) []) ∧ w' = w := by
  by_cases h0 : y = 0
  · subst h0
    rw [if_pos rfl]
    go_enter Tryz.func72, Tryz.ntmps72
    go_wp2
    go_ret2
    exact ⟨rfl, rfl⟩
  · rw [if_neg h0]
    have h0b : (y == 0) = false := by simpa using h0
    have hmb := tmod_bound x y h0
    have hsg := tmod_sign x y
    have hsm : x.tmod y ≠ 0 → ¬ (x < 0 ↔ y < 0) → wrap64 (x.tmod y + y) = x.tmod y + y := fun hr hs => by
      refine wrap_id ?_
      unfold in64 at *
      by_cases hx0 : x < 0
      · have := hsg.1 hx0
        have : ¬ y < 0 := fun h => hs ⟨fun _ => h, fun _ => hx0⟩
        omega
      · have := hsg.2 hx0
        have : y < 0 := Classical.byContradiction fun h => hs ⟨fun h' => (hx0 h').elim, fun h' => (h h').elim⟩
        omega
    unfold remV mends
    clear hmb hsg
    obtain ⟨r, hrr⟩ : ∃ r, x.tmod y = r := ⟨_, rfl⟩
    rw [hrr] at hsm
    rw [hrr]
    generalize hres : numV (some (if (r != 0 && decide (x < 0) != decide (y < 0)) = true then r + y else r)) [] = res
    have HRES : Hid (numV (some (if (r != 0 && decide (x < 0) != decide (y < 0)) = true then r + y else r)) [] = res) := hres
    clear hres
    by_cases hr : r = 0
    · subst hr
      go_enter Tryz.func72, Tryz.ntmps72
      go_wp2
      go_ret2
      exact ⟨by rw [← HRES.out]; simp [numV], rfl⟩
    · have hrb : (r != 0) = true := by simpa using hr
      cases hdx : decide (x < 0)
      all_goals cases hdy : decide (y < 0)
      all_goals
        have HDX : Hid (decide (x < 0) = _) := hdx
        have HDY : Hid (decide (y < 0) = _) := hdy
      · have hx0 : ¬ x < 0 := by simpa using hdx
        have hy0 : ¬ y < 0 := by simpa using hdy
        go_enter Tryz.func72, Tryz.ntmps72
        go_wp2
        go_ret2
        refine ⟨?_, rfl⟩
        rw [← HRES.out, hrb, HDX.out, HDY.out]
        rfl
      · have hx0 : ¬ x < 0 := by simpa using hdx
        have hy0 : y < 0 := by simpa using hdy
        have hw3 := hsm hr (by omega)
        go_enter Tryz.func72, Tryz.ntmps72
        go_wp2
        go_ret2
        refine ⟨?_, rfl⟩
        rw [← HRES.out, hrb, HDX.out, HDY.out]
        rfl
      · have hx0 : x < 0 := by simpa using hdx
        have hy0 : ¬ y < 0 := by simpa using hdy
        have hw3 := hsm hr (by omega)
        go_enter Tryz.func72, Tryz.ntmps72
        go_wp2
        go_ret2
        refine ⟨?_, rfl⟩
        rw [← HRES.out, hrb, HDX.out, HDY.out]
        rfl
      · have hx0 : x < 0 := by simpa using hdx
        have hy0 : y < 0 := by simpa using hdy
        go_enter Tryz.func72, Tryz.ntmps72
        go_wp2
        go_ret2
        refine ⟨?_, rfl⟩
        rw [← HRES.out, hrb, HDX.out, HDY.out]
        rfl
end Go.Proofs.YtnkfbjcgkdblgaaGreat.Vl
