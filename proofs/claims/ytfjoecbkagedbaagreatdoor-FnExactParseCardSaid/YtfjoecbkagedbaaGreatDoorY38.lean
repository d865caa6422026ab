/- Jc, Sc1. -/
import Derived.Test.YtfjoecbkagedbaaGreatDoorY37
import Derived.Lib.IndexAny
import Derived.Lib.IndexLaws
import Derived.Shelf.Small.Strs
import Derived.Shelf.LaysM
import Derived.Shelf.Strconv.Clone
import Derived.Shelf.LaysC
import Derived.Shelf.Strconv.ParseIntPublic10
import Derived.Lib.AtoiErrMem
namespace Go.Proofs
def Tryz.lays137_ren : Go.Shelf.Ren := ⟨fun | 137 => 76 | 217 => 96 | 266 => 107 | n => n, fun | 9 => 9 | 5 => 5 | 3 => 3 | n => n, fun | n => n⟩
theorem Tryz.lays137 : Go.Proofs.Lays.n137 Tryz.prog Tryz.lays137_ren := {
  mixed := by kernel_rfl
  f137 := Tryz.func76.trans (congrArg some (by kernel_rfl))
  f217 := Tryz.func96.trans (congrArg some (by kernel_rfl))
  f266 := Tryz.func107.trans (congrArg some (by kernel_rfl))
  t3 := Tryz.underlying3
  a3 := Tryz.isAgg3
  z3 := Tryz.sizeOf3
  v3 := Tryz.zeroValue3
  t5 := Tryz.underlying5
  a5 := Tryz.isAgg5
  z5 := Tryz.sizeOf5
  v5 := Tryz.zeroValue5
  t9 := Tryz.underlying9
  a9 := Tryz.isAgg9
  z9 := Tryz.sizeOf9
  v9 := Tryz.zeroValue9 }
open Go.RowKit in
theorem Tryz.strings_IndexByte (s : ByteArray) (c : Int) (w : World) :
    Calls Tryz.prog 76 #[.string s, .int .u8 c] w fun e w' => e = .returned (.int .i64 (Lib.indexByte s.data.toList c.toNat.toUInt8)) ∧ w' = w := Any.strings_IndexByte Tryz.lays137 s c w
end Go.Proofs
namespace Go.Proofs.YtfjoecbkagedbaaGreatDoor
open Go.RowKit

set_option maxHeartbeats 400000 in
theorem idigit_any (b : UInt8) (w : World) : Calls Tryz.prog 77 #[.int .u8 b.toNat] w fun e w' => e = .returned (.bool (Sc.dig b)) ∧ w' = w := by
  by_cases h1 : 48 ≤ (b.toNat : Int)
  all_goals by_cases h2 : (b.toNat : Int) ≤ 57
  all_goals
    go_enter Tryz.func77, Tryz.ntmps77
    go_wp2
    go_ret
    exact ⟨ret_bool (by simp [Sc.dig]; omega), rfl⟩

set_option maxHeartbeats 400000 in
theorem iname_any (b : UInt8) (w : World) : Calls Tryz.prog 79 #[.int .u8 b.toNat] w fun e w' => e = .returned (.bool (Sc.nm b)) ∧ w' = w := by
  have hn : Sc.nm b = (Sc.beg b || Sc.dig b) := rfl
  rw [hn]; clear hn
  have hb : Sc.beg b = (decide (97 ≤ (b.toNat : Int)) && decide ((b.toNat : Int) ≤ 122) || ((b.toNat : Int) == 95)) := by rw [Bool.eq_iff_iff]; simp [Sc.beg]; omega
  have HB := hide hb
  clear hb
  by_cases h1 : 97 ≤ (b.toNat : Int)
  all_goals by_cases h2 : (b.toNat : Int) ≤ 122
  all_goals cases h3 : ((b.toNat : Int) == 95)
  all_goals
    go_enter Tryz.func79, Tryz.ntmps79
    go_wp2_with (go_at_call 77; refine (idigit_any _ _).mono ?_; rintro e w' ⟨rfl, rfl⟩)
    go_ret
    exact ⟨ret_bool (by rw [HB.out]; simp [h1, h2, h3]; try omega), rfl⟩

theorem Tr.twc_neg {b : UInt8} {r : List UInt8} (h : Sc.nm b = false) : (b :: r).takeWhile Sc.nm = [] := by simp [h]
theorem Tr.twc_pos {b : UInt8} {r : List UInt8} (h : Sc.nm b = true) : ((b :: r).takeWhile Sc.nm).length = (r.takeWhile Sc.nm).length + 1 := by simp [h]
set_option maxHeartbeats 400000 in
theorem nameSize_any (s : ByteArray) (w : World) (hs : s.size ≤ 1048576) :
    Calls Tryz.prog 91 #[.string s] w fun e w' => e = .returned (.int .i64 ((s.data.toList.takeWhile Sc.nm).length : Nat)) ∧ w' = w := by
  go_enter Tryz.func91, Tryz.ntmps91
  go_wp2
  go_loop [3] (fun t => ∃ j : Nat, j ≤ s.size ∧ t = .int .i64 j ∧ j + ((s.data.toList.drop j).takeWhile Sc.nm).length = (s.data.toList.takeWhile Sc.nm).length) (fun t => s.size - (intOf t).toNat)
  case atStart => exact ⟨0, Nat.zero_le _, rfl, by simp⟩
  case round =>
    obtain ⟨j, hj, rfl, he⟩ := hrel
    have HE := hide he
    clear he
    by_cases hlt : j < s.size
    · have hd := hide (Sc.drop_cons s j hlt)
      cases hn : Sc.nm s[j]
      · go_wp2_with (go_at_call 79; refine (iname_any _ _).mono ?_; rintro e w' ⟨rfl, rfl⟩)
        go_ret
        refine ⟨ret_int ?_, rfl⟩
        have e := HE.out
        rw [hd.out, Tr.twc_neg hn] at e
        simp at e
        omega
      · go_wp2_with (go_at_call 79; refine (iname_any _ _).mono ?_; rintro e w' ⟨rfl, rfl⟩)
        go_round
        case rel =>
          refine ⟨j + 1, by omega, by go_num, ?_⟩
          have e := HE.out
          rw [hd.out, Tr.twc_pos hn] at e
          omega
        case measure => simp [intOf]; omega
    · go_wp2
      go_ret
      refine ⟨ret_int ?_, rfl⟩
      have e := HE.out
      rw [List.drop_of_length_le (i := j) (by simp; omega)] at e
      simp at e
      omega

/-- The words' map. -/
def Sc.wordMap {H : Type} : DataW H := Maps.setOf (.agg []) (Sc.words.map Lit.string)
theorem Sc.has_word {H : Type} (l : List UInt8) : Maps.has (Sc.wordMap (H := H)) (.string l) = decide (l ∈ Sc.words) := by
  unfold Sc.wordMap
  rw [Maps.has_setOf]
  · rw [Bool.eq_iff_iff]
    simp [Lit.sameKey]
  · intro x hx
    simp only [List.mem_map] at hx
    obtain ⟨y, _, rfl⟩ := hx
    trivial

theorem wpList_insert_own {H : Type} {P : Program} (w : World) {ops : Array Oper} {rest : List Oper} {o : Oper} {a : Act} {Q : Exit → Act → World → Prop}
    (hg : o.guard = none) (m x v : Operand) (t : TypeId) (hop : o.op = Op.insert t m x v)
    (k e : TypeId) (K : Maps.Keyed P k) (ht : P.underlying t = some (.map k e)) (R : Value → Option (DataW H × List MemPlace)) (b n : Nat) (D : DataW H)
    (hm : a.eval m = .map (some b)) (hown : w.ownsMap P k R b n D) (hn : n < maxLen) (key val : Value) (kl : Lit) (hx : a.eval x = key) (hv : a.eval v = val) (hkey : keyOf P k key = some kl)
    (d : DataW H) (ps : List MemPlace) (hval : R val = some (d, ps))
    (hK : ∀ w', w'.ownsMap P k R b (n + 1) (D.put kl d) → w.grownBy w' (some b) → wpList P ops Q rest (a.put o.dst undef) w') :
    wpList P ops Q (o :: rest) a w := by
  refine wpList_plain hg fun K' hK' => ?_
  obtain ⟨w', hrun, r1, r2⟩ := hown.update K ht hn hkey hval
  unfold Oper.wp
  simp [execOp, hop, hm, hx, hv, hrun, Result.andThen]
  exact hK' _ _ (hK w' r1 r2)

set_option maxRecDepth 100000 in
set_option maxHeartbeats 1000000 in
theorem wordSet_any (w : World) : Calls Tryz.prog 38 #[] w fun e w' => e = .returned (.map (some w.heap.size)) ∧ w'.ownsMap (H := Unit) Tryz.prog 9 unitElem w.heap.size 17 Sc.wordMap ∧ Below w.heap.size w w' := by
  have hmm := @run_makeMap Tryz.prog
  have hm0 := World.ownsMap_made (H := Unit) w Tryz.prog 9 unitElem
  have hb0 : Below w.heap.size w (w.alloc (.map #[] 0)) := (Below.refl _ _).alloc (Nat.le_refl _) _
  go_enter Tryz.func38, Tryz.ntmps38
  go_wp2_with (show wpList _ _ _ ({ dst := _, op := Op.insert _ _ _ _, type := _, pos := _, after := _, guard := _ } :: _) _ _; go_must (refine wpList_insert_own _ rfl _ _ _ 80 rfl 9 127 lawS Tryz.underlying80 _ w.heap.size _ _ rfl hm0 (by unfold maxLen; decide) _ _ _ rfl rfl (WideMaps.keyOf_string_mk Tryz.underlying9 (by unfold maxLen; decide)) _ [] unitElem_mk ?_); go_must (intro w1 hm1 hg1; replace hb0 := hb0.grown hg1 hb0.size (fun k e => by cases e; exact Nat.le_refl _); replace hm0 := hm1; clear hm1 hg1))
  go_ret
  exact ⟨rfl, hm0, hb0⟩

theorem Tr.tw_all (l : List UInt8) : Tr.allOf Sc.nm l = decide ((l.takeWhile Sc.nm).length = l.length) := by
  induction l with
  | nil => rfl
  | cons b r ih =>
    rw [Tr.allOf_cons, ih]
    cases h : Sc.nm b
    · simp [h]
    · simp [h]
theorem Tr.beg_nm (b : UInt8) (h : Sc.nm b = true) : Sc.beg b = !Sc.dig b := by
  have hn : Sc.nm b = (Sc.beg b || Sc.dig b) := rfl
  have : Sc.beg b = true → Sc.dig b = false := by intro h; simp [Sc.beg, Sc.dig] at h ⊢; omega
  cases hb : Sc.beg b
  · rw [hn, hb] at h; simp at h; simp [h]
  · rw [this hb]; rfl
/-- A name, as the program asks for it. -/
theorem Tr.nameOk_form (s : ByteArray) (h : 0 < s.size) : Tr.nameOk s = (!decide (30 < (s.size : Int)) && !Sc.dig s[0] && !decide (s.data.toList ∈ Sc.words) && decide ((s.data.toList.takeWhile Sc.nm).length = s.size)) := by
  have hd : s.data.toList = s[0] :: s.data.toList.drop 1 := by simpa using Sc.drop_cons s 0 h
  have hh : s.data.toList.head? = some s[0] := by rw [hd]; rfl
  have hl : s.data.toList.length = s.size := by simp
  unfold Tr.nameOk
  rw [hh, Tr.tw_all, hl]
  have e1 : Tr.inr s.size 1 30 = !decide (30 < (s.size : Int)) := by unfold Tr.inr; rw [Bool.eq_iff_iff]; simp; omega
  rw [e1]
  by_cases ha : (s.data.toList.takeWhile Sc.nm).length = s.size
  · have hall : Tr.allOf Sc.nm s.data.toList = true := by rw [Tr.tw_all, hl]; simpa using ha
    rw [hd, Tr.allOf_cons, Bool.and_eq_true] at hall
    rw [Option.map_some, Tr.beg_nm _ hall.1]
    cases Sc.dig s[0] <;> simp
  · simp [ha]
theorem Tr.nameOk_empty (s : ByteArray) (h : s.size = 0) : Tr.nameOk s = false := by
  unfold Tr.nameOk
  rw [h]; rfl

theorem ba_empty (s : ByteArray) : (s.toList == []) = decide (s.size = 0) := by
  rw [Lib.toList_data, Bool.eq_iff_iff]
  simp [← Array.size_eq_zero_iff]

set_option maxRecDepth 100000 in
set_option maxHeartbeats 1000000 in
theorem isName_any (s : ByteArray) (b : Nat) (w : World) (hs : s.size ≤ 1048576) (hm : w.ownsMap (H := Unit) Tryz.prog 9 unitElem b 17 Sc.wordMap) :
    Calls Tryz.prog 70 #[.string s, .map (some b)] w fun e w' => e = .returned (.bool (Tr.nameOk s)) ∧ Below w.heap.size w w' := by
  have hb0 := ba_empty s
  have HM := hide hm
  clear hm
  by_cases h0 : s.size = 0
  · have h1 : (s.toList == []) = true := by rw [hb0]; simpa using h0
    have HN := hide (Tr.nameOk_empty s h0)
    clear hb0
    go_enter Tryz.func70, Tryz.ntmps70
    go_wp2
    go_ret
    exact ⟨ret_bool HN.out.symm, Below.refl _ _⟩
  · have h1 : (s.toList == []) = false := by rw [hb0]; simpa using h0
    have hpos : 0 < s.size := by omega
    have HN := hide (Tr.nameOk_form s hpos)
    clear hb0
    by_cases h30 : 30 < (s.size : Int)
    · go_enter Tryz.func70, Tryz.ntmps70
      go_wp2
      go_ret
      exact ⟨ret_bool (by rw [HN.out]; simp [h30]), Below.refl _ _⟩
    · cases hdg : Sc.dig s[0]
      · have HK : Hid (keyOf Tryz.prog 9 (.string s) = some (.string s.data.toList)) := hide (WideMaps.keyOf_string_mk Tryz.underlying9 (by unfold maxLen; omega))
        have hhas := Sc.has_word (H := Unit) s.data.toList
        cases hw : decide (s.data.toList ∈ Sc.words)
        all_goals
          rw [hw] at hhas
          go_enter Tryz.func70, Tryz.ntmps70
          go_wp2_with (first | (go_at_call 77; refine (idigit_any _ _).mono ?_; rintro e w' ⟨rfl, rfl⟩) | (at_lookup; refine wpList_lookup_own_unit _ rfl _ _ 80 rfl 9 127 lawS Tryz.underlying80 (zeroU _) b 17 Sc.wordMap rfl HM.out _ _ rfl HK.out ?_) | (go_at_call 91; refine (nameSize_any _ _ hs).mono ?_; rintro e w' ⟨rfl, rfl⟩))
          go_ret
          refine ⟨ret_bool ?_, (Below.refl _ _).alloc (Nat.le_refl _) _⟩
          rw [HN.out, hdg, hw]
          first
          | (simp; done)
          | (rw [Bool.eq_iff_iff]; simp; omega)
      · go_enter Tryz.func70, Tryz.ntmps70
        go_wp2_with (go_at_call 77; refine (idigit_any _ _).mono ?_; rintro e w' ⟨rfl, rfl⟩)
        go_ret
        exact ⟨ret_bool (by rw [HN.out, hdg]; simp), Below.refl _ _⟩

theorem Tr.pkg_index (b : UInt8) : Tr.pkgB b = (Sc.nm b || !decide (Lib.indexByte [45, 46, 47] b < 0)) := by
  have h : ∀ n, n < 256 → Tr.pkgB (UInt8.ofNat n) = (Sc.nm (UInt8.ofNat n) || !decide (Lib.indexByte [45, 46, 47] (UInt8.ofNat n) < 0)) := by decide +kernel
  have := h b.toNat b.toNat_lt
  simpa using this
theorem pkgI_any (b : UInt8) (w : World) : Calls Tryz.prog 76 #[.string ⟨#[45, 46, 47]⟩, .int .u8 b.toNat] w fun e w' => e = .returned (.int .i64 (Lib.indexByte [45, 46, 47] b)) ∧ w' = w := by
  have h := Tryz.strings_IndexByte ⟨#[45, 46, 47]⟩ b.toNat w
  rw [show ((b.toNat : Int)).toNat.toUInt8 = b from by simp] at h
  exact h

set_option maxRecDepth 100000 in
set_option maxHeartbeats 1000000 in
theorem isPkg_any (s : ByteArray) (w : World) (hs : s.size ≤ 1048576) :
    Calls Tryz.prog 69 #[.string s] w fun e w' => e = .returned (.bool (Tr.pkgOk s)) ∧ w' = w := by
  have HP := hide (show Tr.pkgOk s = (Tr.inr s.size 1 30 && Tr.allOf Tr.pkgB s.data.toList) from rfl)
  go_enter Tryz.func69, Tryz.ntmps69
  go_wp2
  go_loop [6] (fun t => ∃ j : Nat, j ≤ s.size ∧ t = .int .i64 j ∧ Tr.allOf Tr.pkgB s.data.toList = Tr.allOf Tr.pkgB (s.data.toList.drop j)) (fun t => s.size - (intOf t).toNat)
  case atStart => exact ⟨0, Nat.zero_le _, rfl, by simp⟩
  case round =>
    obtain ⟨j, hj, rfl, he⟩ := hrel
    have HE := hide he
    clear he
    by_cases hlt : j < s.size
    · have hd := hide (Sc.drop_cons s j hlt)
      have HS := hide (show Tr.allOf Tr.pkgB s.data.toList = (Tr.pkgB s[j] && Tr.allOf Tr.pkgB (s.data.toList.drop (j + 1))) by rw [HE.out, hd.out, Tr.allOf_cons])
      have HB := hide (Tr.pkg_index s[j])
      have HI := hide (pkgI_any s[j])
      cases hn : Sc.nm s[j]
      · generalize Lib.indexByte [45, 46, 47] s[j] = ix at *
        by_cases hx : ix < 0
        · go_wp2_with (first | (go_at_call 79; refine (iname_any _ _).mono ?_; rintro e w' ⟨rfl, rfl⟩) | (go_at_call 76; refine (HI.out _).mono ?_; rintro e w' ⟨rfl, rfl⟩))
          go_ret
          exact ⟨ret_bool (by rw [HP.out, HS.out, HB.out, hn]; simp [hx]), rfl⟩
        · go_wp2_with (first | (go_at_call 79; refine (iname_any _ _).mono ?_; rintro e w' ⟨rfl, rfl⟩) | (go_at_call 76; refine (HI.out _).mono ?_; rintro e w' ⟨rfl, rfl⟩))
          go_round
          case rel => exact ⟨j + 1, by omega, by go_num, by rw [HS.out, HB.out, hn, decide_eq_false (by omega : ¬ ix < 0)]; rfl⟩
          case measure => simp [intOf]; omega
      · go_wp2_with (first | (go_at_call 79; refine (iname_any _ _).mono ?_; rintro e w' ⟨rfl, rfl⟩))
        go_round
        case rel => exact ⟨j + 1, by omega, by go_num, by rw [HS.out, HB.out, hn]; rfl⟩
        case measure => simp [intOf]; omega
    · have HF := hide (show Tr.pkgOk s = Tr.inr s.size 1 30 by
        rw [HP.out, HE.out, List.drop_of_length_le (i := j) (by simp; omega)]; simp [Tr.allOf])
      by_cases a1 : 1 ≤ (s.size : Int)
      all_goals by_cases a2 : (s.size : Int) ≤ 30
      all_goals
        go_wp2
        go_ret
        exact ⟨ret_bool (by rw [HF.out]; simp [Tr.inr]; try omega), rfl⟩
end Go.Proofs.YtfjoecbkagedbaaGreatDoor
namespace Go.Proofs
open Go.Shelf
def Tryz.laysM316_ren : Go.Shelf.Ren := ⟨fun | 316 => 120 | n => n, fun | 9 => 9 | 3 => 3 | 4 => 4 | 37 => 131 | 0 => 0 | 127 => 170 | 5 => 5 | n => n, fun | n => n⟩
theorem Tryz.laysM316 : Go.Proofs.LaysM.n316 Tryz.prog Tryz.laysM316_ren := {
  mixed := by kernel_rfl
  f316 := Tryz.func120.trans (congrArg some (by kernel_rfl))
  t0 := Tryz.underlying0
  a0 := Tryz.isAgg0
  z0 := Tryz.sizeOf0
  v0 := Tryz.zeroValue0
  t3 := Tryz.underlying3
  a3 := Tryz.isAgg3
  z3 := Tryz.sizeOf3
  v3 := Tryz.zeroValue3
  t4 := Tryz.underlying4
  a4 := Tryz.isAgg4
  z4 := Tryz.sizeOf4
  v4 := Tryz.zeroValue4
  t9 := Tryz.underlying9
  a9 := Tryz.isAgg9
  z9 := Tryz.sizeOf9
  v9 := Tryz.zeroValue9
  t37 := Tryz.underlying131
  a37 := Tryz.isAgg131
  z37 := Tryz.sizeOf131
  v37 := Tryz.zeroValue131
  t127 := Tryz.underlying170
  a127 := Tryz.isAgg170
  z127 := Tryz.sizeOf170
  v127 := Tryz.zeroValue170
  t5 := Tryz.underlying5
  a5 := Tryz.isAgg5
  z5 := Tryz.sizeOf5
  v5 := Tryz.zeroValue5
  i0 := by kernel_rfl
  i3 := by kernel_rfl
  i4 := by kernel_rfl
  i5 := by kernel_rfl
  i9 := by kernel_rfl
  i37 := by kernel_rfl
  i127 := by kernel_rfl }
open Go.RowKit in
theorem Tryz.stringslite_Clone (s : ByteArray) (w : World) (hlim : s.size ≤ 281474976710656) :
    Calls Tryz.prog 120 #[.string s] w fun e w' => e = .returned (.string s) ∧ Below w.heap.size w w' := Any.stringslite_Clone Tryz.laysM316 s w hlim
def Tryz.laysC174_ren : Go.Shelf.Ren := ⟨fun | 174 => 97 | 247 => 108 | 245 => 109 | 287 => 115 | 279 => 116 | 280 => 117 | 281 => 118 | 282 => 119 | 321 => 123 | 322 => 124 | 316 => 120 | 171 => 126 | 205 => 125 | 243 => 132 | 246 => 134 | 283 => 135 | 284 => 136 | 285 => 137 | 286 => 138 | 129 => 140 | 317 => 139 | 318 => 141 | 319 => 142 | 320 => 143 | 337 => 144 | 338 => 145 | n => n, fun | 9 => 9 | 3 => 3 | 2 => 2 | 75 => 144 | 85 => 145 | 4 => 4 | 167 => 159 | 5 => 5 | 53 => 132 | 175 => 160 | 46 => 162 | 168 => 163 | 37 => 131 | 0 => 0 | 210 => 168 | 21 => 21 | 127 => 170 | 145 => 173 | 143 => 171 | 171 => 176 | 173 => 179 | 212 => 182 | 51 => 183 | 20 => 20 | 213 => 184 | 232 => 187 | 233 => 188 | 80 => 57 | n => n, fun | 15 => 2 | 16 => 3 | 17 => 4 | 18 => 5 | 19 => 6 | n => n⟩
theorem Tryz.laysC174 : Go.Proofs.LaysC.n174 Tryz.prog Tryz.laysC174_ren := {
  mixed := by kernel_rfl
  f129 := Tryz.func140.trans (congrArg some (by kernel_rfl))
  f171 := Tryz.func126.trans (congrArg some (by kernel_rfl))
  f174 := Tryz.func97.trans (congrArg some (by kernel_rfl))
  f205 := Tryz.func125.trans (congrArg some (by kernel_rfl))
  f243 := Tryz.func132.trans (congrArg some (by kernel_rfl))
  f245 := Tryz.func109.trans (congrArg some (by kernel_rfl))
  f246 := Tryz.func134.trans (congrArg some (by kernel_rfl))
  f247 := Tryz.func108.trans (congrArg some (by kernel_rfl))
  f279 := Tryz.func116.trans (congrArg some (by kernel_rfl))
  f280 := Tryz.func117.trans (congrArg some (by kernel_rfl))
  f281 := Tryz.func118.trans (congrArg some (by kernel_rfl))
  f282 := Tryz.func119.trans (congrArg some (by kernel_rfl))
  f283 := Tryz.func135.trans (congrArg some (by kernel_rfl))
  f284 := Tryz.func136.trans (congrArg some (by kernel_rfl))
  f285 := Tryz.func137.trans (congrArg some (by kernel_rfl))
  f286 := Tryz.func138.trans (congrArg some (by kernel_rfl))
  f287 := Tryz.func115.trans (congrArg some (by kernel_rfl))
  f316 := Tryz.func120.trans (congrArg some (by kernel_rfl))
  f317 := Tryz.func139.trans (congrArg some (by kernel_rfl))
  f318 := Tryz.func141.trans (congrArg some (by kernel_rfl))
  f319 := Tryz.func142.trans (congrArg some (by kernel_rfl))
  f320 := Tryz.func143.trans (congrArg some (by kernel_rfl))
  f321 := Tryz.func123.trans (congrArg some (by kernel_rfl))
  f322 := Tryz.func124.trans (congrArg some (by kernel_rfl))
  f337 := Tryz.func144.trans (congrArg some (by kernel_rfl))
  f338 := Tryz.func145.trans (congrArg some (by kernel_rfl))
  t0 := Tryz.underlying0
  a0 := Tryz.isAgg0
  z0 := Tryz.sizeOf0
  v0 := Tryz.zeroValue0
  t2 := Tryz.underlying2
  a2 := Tryz.isAgg2
  z2 := Tryz.sizeOf2
  v2 := Tryz.zeroValue2
  t3 := Tryz.underlying3
  a3 := Tryz.isAgg3
  z3 := Tryz.sizeOf3
  v3 := Tryz.zeroValue3
  t4 := Tryz.underlying4
  a4 := Tryz.isAgg4
  z4 := Tryz.sizeOf4
  v4 := Tryz.zeroValue4
  t5 := Tryz.underlying5
  a5 := Tryz.isAgg5
  z5 := Tryz.sizeOf5
  v5 := Tryz.zeroValue5
  t9 := Tryz.underlying9
  a9 := Tryz.isAgg9
  z9 := Tryz.sizeOf9
  v9 := Tryz.zeroValue9
  t20 := Tryz.underlying20
  a20 := Tryz.isAgg20
  z20 := Tryz.sizeOf20
  v20 := Tryz.zeroValue20
  t21 := Tryz.underlying21
  a21 := Tryz.isAgg21
  z21 := Tryz.sizeOf21
  v21 := Tryz.zeroValue21
  t37 := Tryz.underlying131
  a37 := Tryz.isAgg131
  z37 := Tryz.sizeOf131
  v37 := Tryz.zeroValue131
  t46 := Tryz.underlying162
  a46 := Tryz.isAgg162
  z46 := Tryz.sizeOf162
  v46 := Tryz.zeroValue162
  t51 := Tryz.underlying183
  a51 := Tryz.isAgg183
  z51 := Tryz.sizeOf183
  v51 := Tryz.zeroValue183
  t53 := Tryz.underlying132
  a53 := Tryz.isAgg132
  z53 := Tryz.sizeOf132
  v53 := Tryz.zeroValue132
  t75 := Tryz.underlying144
  a75 := Tryz.isAgg144
  z75 := Tryz.sizeOf144
  v75 := Tryz.zeroValue144
  t85 := Tryz.underlying145
  a85 := Tryz.isAgg145
  z85 := Tryz.sizeOf145
  v85 := Tryz.zeroValue145
  t127 := Tryz.underlying170
  a127 := Tryz.isAgg170
  z127 := Tryz.sizeOf170
  v127 := Tryz.zeroValue170
  t143 := Tryz.underlying171
  a143 := Tryz.isAgg171
  z143 := Tryz.sizeOf171
  v143 := Tryz.zeroValue171
  t145 := Tryz.underlying173
  a145 := Tryz.isAgg173
  z145 := Tryz.sizeOf173
  v145 := Tryz.zeroValue173
  t167 := Tryz.underlying159
  a167 := Tryz.isAgg159
  z167 := Tryz.sizeOf159
  v167 := Tryz.zeroValue159
  t168 := Tryz.underlying163
  a168 := Tryz.isAgg163
  z168 := Tryz.sizeOf163
  v168 := Tryz.zeroValue163
  t171 := Tryz.underlying176
  a171 := Tryz.isAgg176
  z171 := Tryz.sizeOf176
  v171 := Tryz.zeroValue176
  t173 := Tryz.underlying179
  a173 := Tryz.isAgg179
  z173 := Tryz.sizeOf179
  v173 := Tryz.zeroValue179
  t175 := Tryz.underlying160
  a175 := Tryz.isAgg160
  z175 := Tryz.sizeOf160
  v175 := Tryz.zeroValue160
  t210 := Tryz.underlying168
  a210 := Tryz.isAgg168
  z210 := Tryz.sizeOf168
  v210 := Tryz.zeroValue168
  t212 := Tryz.underlying182
  a212 := Tryz.isAgg182
  z212 := Tryz.sizeOf182
  v212 := Tryz.zeroValue182
  t213 := Tryz.underlying184
  a213 := Tryz.isAgg184
  z213 := Tryz.sizeOf184
  t232 := Tryz.underlying187
  a232 := Tryz.isAgg187
  z232 := Tryz.sizeOf187
  v232 := Tryz.zeroValue187
  t233 := Tryz.underlying188
  a233 := Tryz.isAgg188
  z233 := Tryz.sizeOf188
  v233 := Tryz.zeroValue188
  g15 := by kernel_rfl
  g16 := by kernel_rfl
  g17 := by kernel_rfl
  g18 := by kernel_rfl
  g19 := by kernel_rfl
  t80 := Tryz.underlying57
  a80 := Tryz.isAgg57
  z80 := Tryz.sizeOf57
  v80 := Tryz.zeroValue57
  i0 := by kernel_rfl
  i2 := by kernel_rfl
  i3 := by kernel_rfl
  i4 := by kernel_rfl
  i5 := by kernel_rfl
  i9 := by kernel_rfl
  i20 := by kernel_rfl
  i21 := by kernel_rfl
  i37 := by kernel_rfl
  i46 := by kernel_rfl
  i51 := by kernel_rfl
  i53 := by kernel_rfl
  i75 := by kernel_rfl
  i80 := by kernel_rfl
  i85 := by kernel_rfl
  i127 := by kernel_rfl
  i143 := by kernel_rfl
  i145 := by kernel_rfl
  i167 := by kernel_rfl
  i168 := by kernel_rfl
  i171 := by kernel_rfl
  i173 := by kernel_rfl
  i175 := by kernel_rfl
  i210 := by kernel_rfl
  i212 := by kernel_rfl
  i232 := by kernel_rfl
  i233 := by kernel_rfl
  m15 := by kernel_rfl
  m16 := by kernel_rfl
  m17 := by kernel_rfl
  m18 := by kernel_rfl
  m19 := by kernel_rfl
  c0 := by kernel_rfl
  c2 := by kernel_rfl
  c3 := by kernel_rfl
  c4 := by kernel_rfl
  c5 := by kernel_rfl
  c9 := by kernel_rfl
  c20 := by kernel_rfl
  c21 := by kernel_rfl
  c37 := by kernel_rfl
  c46 := by kernel_rfl
  c51 := by kernel_rfl
  c53 := by kernel_rfl
  c75 := by kernel_rfl
  c80 := by kernel_rfl
  c85 := by kernel_rfl
  c127 := by kernel_rfl
  c143 := by kernel_rfl
  c145 := by kernel_rfl
  c167 := by kernel_rfl
  c168 := by kernel_rfl
  c171 := by kernel_rfl
  c173 := by kernel_rfl
  c175 := by kernel_rfl
  c210 := by kernel_rfl
  c212 := by kernel_rfl
  c213 := by kernel_rfl
  c232 := by kernel_rfl
  c233 := by kernel_rfl }
open Go.RowKit in
theorem Tryz.parse64 (s : ByteArray) (w : World) (ev1 ev2 : Value) (hlim : s.size ≤ 281474976710656) (hv1 : w.cell? ⟨2, 0, none⟩ = some ev1) (hv2 : w.cell? ⟨3, 0, none⟩ = some ev2) (he1 : ∃ te pe, ev1 = .iface te pe) (he2 : ∃ te pe, ev2 = .iface te pe) :
    Calls Tryz.prog 97 #[.string s, .int .i64 10, .int .i64 64] w fun e w' => Below w.heap.size w w' ∧ ((∃ v, Lib.parseIntB 64 s.data.toList = .ok v ∧ e = .returned (.tuple #[.int .i64 v, .nilIface])) ∨ ((∀ v, Lib.parseIntB 64 s.data.toList ≠ .ok v) ∧ ∃ n N, e = .returned (.tuple #[.int .i64 n, .iface 163 (.pointer (some ⟨N, 0, none⟩))]))) := by
  cases h : Lib.parseIntB 64 s.data.toList
  · refine (Any.strconv_ParseInt_10_at64_ok Tryz.laysC174 s (by omega) _ h w).mono ?_
    rintro e w' ⟨rfl, hw⟩
    refine ⟨?_, .inl ⟨_, rfl, rfl⟩⟩
    rcases hw with rfl | ⟨t, rfl⟩
    · exact Below.refl _ _
    · exact Lib.bytesWorld_below _ _ _
  · refine (Any.strconv_ParseInt_10_at64_syntax Tryz.laysC174 s hlim h ev1 w hv1 (.inr he1)).mono ?_
    rintro e w' ⟨N, rfl, _, _, hb⟩
    exact ⟨hb, .inr ⟨(by simp), _, N, rfl⟩⟩
  · refine (Any.strconv_ParseInt_10_at64_range Tryz.laysC174 s hlim h ev2 w hv2 (.inr he2)).mono ?_
    rintro e w' ⟨N, rfl, _, _, hb⟩
    exact ⟨hb, .inr ⟨(by simp), _, N, rfl⟩⟩
end Go.Proofs
