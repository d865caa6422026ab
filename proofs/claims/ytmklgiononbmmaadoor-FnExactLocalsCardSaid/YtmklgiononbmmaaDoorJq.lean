/- Walks: the program's words and names: letters, the set of words. -/
import Derived.Test.YtmklgiononbmmaaDoorJr
import Derived.Lib.IndexAny
import Derived.Lib.IndexLaws
import Derived.Shelf.Small.Strs
namespace Go.Proofs
def Tryd.lays137_ren : Go.Shelf.Ren := ⟨fun | 137 => 95 | 217 => 108 | 266 => 115 | n => n, fun | 9 => 9 | 5 => 5 | 3 => 3 | n => n, fun | n => n⟩
theorem Tryd.lays137 : Go.Proofs.Lays.n137 Tryd.prog Tryd.lays137_ren := {
  mixed := by kernel_rfl
  f137 := Tryd.func95.trans (congrArg some (by kernel_rfl))
  f217 := Tryd.func108.trans (congrArg some (by kernel_rfl))
  f266 := Tryd.func115.trans (congrArg some (by kernel_rfl))
  t3 := Tryd.underlying3
  a3 := Tryd.isAgg3
  z3 := Tryd.sizeOf3
  v3 := Tryd.zeroValue3
  t5 := Tryd.underlying5
  a5 := Tryd.isAgg5
  z5 := Tryd.sizeOf5
  v5 := Tryd.zeroValue5
  t9 := Tryd.underlying9
  a9 := Tryd.isAgg9
  z9 := Tryd.sizeOf9
  v9 := Tryd.zeroValue9 }
open Go.RowKit in
theorem Tryd.strings_IndexByte (s : ByteArray) (c : Int) (w : World) :
    Calls Tryd.prog 95 #[.string s, .int .u8 c] w fun e w' => e = .returned (.int .i64 (Lib.indexByte s.data.toList c.toNat.toUInt8)) ∧ w' = w := Any.strings_IndexByte Tryd.lays137 s c w
end Go.Proofs
namespace Go.Proofs.YtmklgiononbmmaaDoor
open Go.RowKit

set_option maxHeartbeats 400000 in
theorem idigit_any (b : UInt8) (w : World) : Calls Tryd.prog 88 #[.int .u8 b.toNat] w fun e w' => e = .returned (.bool (Sc.dig b)) ∧ w' = w := by
  by_cases h1 : 48 ≤ (b.toNat : Int)
  all_goals by_cases h2 : (b.toNat : Int) ≤ 57
  all_goals
    go_enter Tryd.func88, Tryd.ntmps88
    go_wp2
    go_ret
    exact ⟨ret_bool (by simp [Sc.dig]; omega), rfl⟩

set_option maxHeartbeats 400000 in
theorem iname_any (b : UInt8) (w : World) : Calls Tryd.prog 94 #[.int .u8 b.toNat] w fun e w' => e = .returned (.bool (Sc.nm b)) ∧ w' = w := by
  have hn : Sc.nm b = (Sc.beg b || Sc.dig b) := rfl
  rw [hn]; clear hn
  have hb : Sc.beg b = (decide (97 ≤ (b.toNat : Int)) && decide ((b.toNat : Int) ≤ 122) || ((b.toNat : Int) == 95)) := by rw [Bool.eq_iff_iff]; simp [Sc.beg]; omega
  have HB := hide hb
  clear hb
  by_cases h1 : 97 ≤ (b.toNat : Int)
  all_goals by_cases h2 : (b.toNat : Int) ≤ 122
  all_goals cases h3 : ((b.toNat : Int) == 95)
  all_goals
    go_enter Tryd.func94, Tryd.ntmps94
    go_wp2_with (go_at_call 88; refine (idigit_any _ _).mono ?_; rintro e w' ⟨rfl, rfl⟩)
    go_ret
    exact ⟨ret_bool (by rw [HB.out]; simp [h1, h2, h3]; try omega), rfl⟩

theorem Tr.twc_neg {b : UInt8} {r : List UInt8} (h : Sc.nm b = false) : (b :: r).takeWhile Sc.nm = [] := by simp [h]
theorem Tr.twc_pos {b : UInt8} {r : List UInt8} (h : Sc.nm b = true) : ((b :: r).takeWhile Sc.nm).length = (r.takeWhile Sc.nm).length + 1 := by simp [h]
set_option maxHeartbeats 400000 in
theorem nameSize_any (s : ByteArray) (w : World) (hs : s.size ≤ 1048576) :
    Calls Tryd.prog 89 #[.string s] w fun e w' => e = .returned (.int .i64 ((s.data.toList.takeWhile Sc.nm).length : Nat)) ∧ w' = w := by
  go_enter Tryd.func89, Tryd.ntmps89
  go_wp2
  go_loop [3] (fun t => ∃ j : Nat, j ≤ s.size ∧ t = .int .i64 j ∧ j + ((s.data.toList.drop j).takeWhile Sc.nm).length = (s.data.toList.takeWhile Sc.nm).length) (fun t => s.size - (intOf t).toNat)
  case atStart => exact ⟨0, Nat.zero_le _, rfl, by simp⟩
  case round =>
    obtain ⟨j, hj, rfl, he⟩ := hrel
    have HE := hide he
    clear he
    by_cases hlt : j < s.size
    · have hd := hide (Sc.drop_cons s j hlt)
      cases hn : Sc.nm s[j]
      · go_wp2_with (go_at_call 94; refine (iname_any _ _).mono ?_; rintro e w' ⟨rfl, rfl⟩)
        go_ret
        refine ⟨ret_int ?_, rfl⟩
        have e := HE.out
        rw [hd.out, Tr.twc_neg hn] at e
        simp at e
        omega
      · go_wp2_with (go_at_call 94; refine (iname_any _ _).mono ?_; rintro e w' ⟨rfl, rfl⟩)
        go_round
        case rel =>
          refine ⟨j + 1, by omega, by go_num, ?_⟩
          have e := HE.out
          rw [hd.out, Tr.twc_pos hn] at e
          omega
        case measure => simp [intOf]; omega
    · go_wp2
      go_ret
      refine ⟨ret_int ?_, rfl⟩
      have e := HE.out
      rw [List.drop_of_length_le (i := j) (by simp; omega)] at e
      simp at e
      omega

/-- The words' map. -/
def Sc.wordMap {H : Type} : DataW H := Maps.setOf (.agg []) (Sc.words.map Lit.string)
theorem Sc.has_word {H : Type} (l : List UInt8) : Maps.has (Sc.wordMap (H := H)) (.string l) = decide (l ∈ Sc.words) := by
  unfold Sc.wordMap
  rw [Maps.has_setOf]
  · rw [Bool.eq_iff_iff]
    simp [Lit.sameKey]
  · intro x hx
    simp only [List.mem_map] at hx
    obtain ⟨y, _, rfl⟩ := hx
    trivial

theorem wpList_insert_own {H : Type} {P : Program} (w : World) {ops : Array Oper} {rest : List Oper} {o : Oper} {a : Act} {Q : Exit → Act → World → Prop}
    (hg : o.guard = none) (m x v : Operand) (t : TypeId) (hop : o.op = Op.insert t m x v)
    (k e : TypeId) (K : Maps.Keyed P k) (ht : P.underlying t = some (.map k e)) (R : Value → Option (DataW H × List MemPlace)) (b n : Nat) (D : DataW H)
    (hm : a.eval m = .map (some b)) (hown : w.ownsMap P k R b n D) (hn : n < maxLen) (key val : Value) (kl : Lit) (hx : a.eval x = key) (hv : a.eval v = val) (hkey : keyOf P k key = some kl)
    (d : DataW H) (ps : List MemPlace) (hval : R val = some (d, ps))
    (hK : ∀ w', w'.ownsMap P k R b (n + 1) (D.put kl d) → w.grownBy w' (some b) → wpList P ops Q rest (a.put o.dst undef) w') :
    wpList P ops Q (o :: rest) a w := by
  refine wpList_plain hg fun K' hK' => ?_
  obtain ⟨w', hrun, r1, r2⟩ := hown.update K ht hn hkey hval
  unfold Oper.wp
  simp [execOp, hop, hm, hx, hv, hrun, Result.andThen]
  exact hK' _ _ (hK w' r1 r2)

set_option maxRecDepth 100000 in
set_option maxHeartbeats 1000000 in
theorem wordSet_any (w : World) : Calls Tryd.prog 53 #[] w fun e w' => e = .returned (.map (some w.heap.size)) ∧ w'.ownsMap (H := Unit) Tryd.prog 9 unitElem w.heap.size 17 Sc.wordMap ∧ Below w.heap.size w w' := by
  have hmm := @run_makeMap Tryd.prog
  have hm0 := World.ownsMap_made (H := Unit) w Tryd.prog 9 unitElem
  have hb0 : Below w.heap.size w (w.alloc (.map #[] 0)) := (Below.refl _ _).alloc (Nat.le_refl _) _
  go_enter Tryd.func53, Tryd.ntmps53
  go_wp2_with (show wpList _ _ _ ({ dst := _, op := Op.insert _ _ _ _, type := _, pos := _, after := _, guard := _ } :: _) _ _; go_must (refine wpList_insert_own _ rfl _ _ _ 90 rfl 9 66 lawS Tryd.underlying90 _ w.heap.size _ _ rfl hm0 (by unfold maxLen; decide) _ _ _ rfl rfl (WideMaps.keyOf_string_mk Tryd.underlying9 (by unfold maxLen; decide)) _ [] unitElem_mk ?_); go_must (intro w1 hm1 hg1; replace hb0 := hb0.grown hg1 hb0.size (fun k e => by cases e; exact Nat.le_refl _); replace hm0 := hm1; clear hm1 hg1))
  go_ret
  exact ⟨rfl, hm0, hb0⟩

theorem Tr.tw_all (l : List UInt8) : Tr.allOf Sc.nm l = decide ((l.takeWhile Sc.nm).length = l.length) := by
  induction l with
  | nil => rfl
  | cons b r ih =>
    rw [Tr.allOf_cons, ih]
    cases h : Sc.nm b
    · simp [h]
    · simp [h]
theorem Tr.beg_nm (b : UInt8) (h : Sc.nm b = true) : Sc.beg b = !Sc.dig b := by
  have hn : Sc.nm b = (Sc.beg b || Sc.dig b) := rfl
  have : Sc.beg b = true → Sc.dig b = false := by intro h; simp [Sc.beg, Sc.dig] at h ⊢; omega
  cases hb : Sc.beg b
  · rw [hn, hb] at h; simp at h; simp [h]
  · rw [this hb]; rfl
/-- A name, as the program asks for it. -/
theorem Tr.nameOk_form (s : ByteArray) (h : 0 < s.size) : Tr.nameOk s = (!decide (30 < (s.size : Int)) && !Sc.dig s[0] && !decide (s.data.toList ∈ Sc.words) && decide ((s.data.toList.takeWhile Sc.nm).length = s.size)) := by
  have hd : s.data.toList = s[0] :: s.data.toList.drop 1 := by simpa using Sc.drop_cons s 0 h
  have hh : s.data.toList.head? = some s[0] := by rw [hd]; rfl
  have hl : s.data.toList.length = s.size := by simp
  unfold Tr.nameOk
  rw [hh, Tr.tw_all, hl]
  have e1 : Tr.inr s.size 1 30 = !decide (30 < (s.size : Int)) := by unfold Tr.inr; rw [Bool.eq_iff_iff]; simp; omega
  rw [e1]
  by_cases ha : (s.data.toList.takeWhile Sc.nm).length = s.size
  · have hall : Tr.allOf Sc.nm s.data.toList = true := by rw [Tr.tw_all, hl]; simpa using ha
    rw [hd, Tr.allOf_cons, Bool.and_eq_true] at hall
    rw [Option.map_some, Tr.beg_nm _ hall.1]
    cases Sc.dig s[0] <;> simp
  · simp [ha]
theorem Tr.nameOk_empty (s : ByteArray) (h : s.size = 0) : Tr.nameOk s = false := by
  unfold Tr.nameOk
  rw [h]; rfl

theorem ba_empty (s : ByteArray) : (s.toList == []) = decide (s.size = 0) := by
  rw [Lib.toList_data, Bool.eq_iff_iff]
  simp [← Array.size_eq_zero_iff]

end Go.Proofs.YtmklgiononbmmaaDoor
