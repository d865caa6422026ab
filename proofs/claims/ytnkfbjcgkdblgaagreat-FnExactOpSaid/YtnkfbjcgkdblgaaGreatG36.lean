/- Joined: Eo, Ep. -/
import Derived.Shelf.Strings.Search3
import Derived.Test.YtnkfbjcgkdblgaaGreatProg
import Derived.Test.YtnkfbjcgkdblgaaGreatG23
namespace Go.Proofs
open Go.Shelf
def Tryz.lays144_ren : Go.Shelf.Ren := ⟨fun | 144 => 87 | 143 => 118 | 219 => 133 | 217 => 146 | 225 => 147 | 224 => 148 | 267 => 149 | 266 => 156 | 314 => 157 | n => n, fun | 9 => 9 | 4 => 4 | 3 => 3 | 5 => 5 | 46 => 161 | 146 => 185 | 51 => 174 | n => n, fun | 1 => 0 | n => n⟩
theorem Tryz.lays144 : Go.Proofs.Lays.n144 Tryz.prog Tryz.lays144_ren := {
  mixed := by kernel_rfl
  f143 := Tryz.func118.trans (congrArg some (by kernel_rfl))
  f144 := Tryz.func87.trans (congrArg some (by kernel_rfl))
  f217 := Tryz.func146.trans (congrArg some (by kernel_rfl))
  f219 := Tryz.func133.trans (congrArg some (by kernel_rfl))
  f224 := Tryz.func148.trans (congrArg some (by kernel_rfl))
  f225 := Tryz.func147.trans (congrArg some (by kernel_rfl))
  f266 := Tryz.func156.trans (congrArg some (by kernel_rfl))
  f267 := Tryz.func149.trans (congrArg some (by kernel_rfl))
  f314 := Tryz.func157.trans (congrArg some (by kernel_rfl))
  t3 := Tryz.underlying3
  a3 := Tryz.isAgg3
  z3 := Tryz.sizeOf3
  v3 := Tryz.zeroValue3
  t4 := Tryz.underlying4
  a4 := Tryz.isAgg4
  z4 := Tryz.sizeOf4
  v4 := Tryz.zeroValue4
  t5 := Tryz.underlying5
  a5 := Tryz.isAgg5
  z5 := Tryz.sizeOf5
  v5 := Tryz.zeroValue5
  t9 := Tryz.underlying9
  a9 := Tryz.isAgg9
  z9 := Tryz.sizeOf9
  v9 := Tryz.zeroValue9
  t46 := Tryz.underlying161
  a46 := Tryz.isAgg161
  z46 := Tryz.sizeOf161
  v46 := Tryz.zeroValue161
  t51 := Tryz.underlying174
  a51 := Tryz.isAgg174
  z51 := Tryz.sizeOf174
  v51 := Tryz.zeroValue174
  t146 := Tryz.underlying185
  a146 := Tryz.isAgg185
  z146 := Tryz.sizeOf185
  v146 := Tryz.zeroValue185
  g1 := by kernel_rfl }
end Go.Proofs
namespace Go.Proofs.YtnkfbjcgkdblgaaGreat.Vl
open Go.RowKit T.atoms T.ok T.high T.good T.allPlain DatAt T.ord

def containsR (t u : T) : Out := .inr (boolT (Lib.contains t.text.data.toList u.text.data.toList))
theorem text_kind {w : World} {x : Nat} {t : T} {s : ByteArray} (h : DatAt w x t (.iface 89 (.string s))) : t.kind = 4 := by
  apply Classical.byContradiction
  intro hk
  obtain ⟨y1, u1, e, hy⟩ := (formT h).2 hk
  cases e; exact hy rfl
theorem contains_any (s sub : ByteArray) (w : World) (hs : s.size < 4294967281) (hG : GI w) :
    Calls Tryz.prog 87 #[.string s, .string sub] w fun e w' => e = .returned (.bool (Lib.contains s.data.toList sub.data.toList)) ∧ w' = w := by
  obtain ⟨m, hm⟩ := hG
  exact Any.strings_Contains Tryz.lays144 s sub m w hs hm
set_option maxRecDepth 100000 in
set_option maxHeartbeats 1000000 in
theorem leaf_contains : LeafTT 57 containsR := fun W t u x y a b hG hg _ _ _ _ _ h4 h5 => by
  have k1 := text_kind h4
  have e1 := text_of h4
  have e2 := text_of h5
  subst e1 e2
  have s1 := text_size k1 hg
  have HC := hide (contains_any t.text u.text W (by omega) hG)
  unfold containsR
  generalize Lib.contains t.text.data.toList u.text.data.toList = cb at *
  clear k1 h4 h5 hg
  refine Calls.mono ?_ tup_bool
  go_enter Tryz.func57, Tryz.ntmps57
  go_wp2_with fail
  refine HC.out.mono ?_
  rintro e w1 ⟨rfl, rfl⟩
  go_wp2
  go_ret2
  exact ⟨_, _, rfl, rfl, rfl, Below.refl _ _⟩
end Go.Proofs.YtnkfbjcgkdblgaaGreat.Vl
