/- Walks: the program's small functions: words, gaps, marks, new tokens, bytes in digits. -/
import Derived.Test.YtempkondijgdgaaDoorWg
import Derived.Test.YtempkondijgdgaaDoorShelf
import Derived.Maps.OwnSet
import Derived.Lib.IndexAny
import Derived.Lib.IndexLaws
namespace Go.Proofs.YtempkondijgdgaaDoor
open Go.RowKit

theorem wpList_insert_own {H : Type} {P : Program} (w : World) {ops : Array Oper} {rest : List Oper} {o : Oper} {a : Act} {Q : Exit → Act → World → Prop}
    (hg : o.guard = none) (m x v : Operand) (t : TypeId) (hop : o.op = Op.insert t m x v)
    (k e : TypeId) (K : Maps.Keyed P k) (ht : P.underlying t = some (.map k e)) (R : Value → Option (DataW H × List MemPlace)) (b n : Nat) (D : DataW H)
    (hm : a.eval m = .map (some b)) (hown : w.ownsMap P k R b n D) (hn : n < maxLen) (key val : Value) (kl : Lit) (hx : a.eval x = key) (hv : a.eval v = val) (hkey : keyOf P k key = some kl)
    (d : DataW H) (ps : List MemPlace) (hval : R val = some (d, ps))
    (hK : ∀ w', w'.ownsMap P k R b (n + 1) (D.put kl d) → w.grownBy w' (some b) → wpList P ops Q rest (a.put o.dst undef) w') :
    wpList P ops Q (o :: rest) a w := by
  refine wpList_plain hg fun K' hK' => ?_
  obtain ⟨w', hrun, r1, r2⟩ := hown.update K ht hn hkey hval
  unfold Oper.wp
  simp [execOp, hop, hm, hx, hv, hrun, Result.andThen]
  exact hK' _ _ (hK w' r1 r2)

theorem law9 : Maps.Keyed Tryd.prog 9 := Maps.string_keyed Tryd.underlying9

/-- The words' map. -/
def Sc.wordMap {H : Type} : DataW H := Maps.setOf (.agg []) (Sc.words.map Lit.string)
theorem Sc.has_word {H : Type} (l : List UInt8) : Maps.has (Sc.wordMap (H := H)) (.string l) = Sc.isWord l := by
  unfold Sc.wordMap
  rw [Maps.has_setOf]
  · rw [Bool.eq_iff_iff]
    simp [Sc.isWord, Lit.sameKey]
  · intro x hx
    simp only [List.mem_map] at hx
    obtain ⟨y, _, rfl⟩ := hx
    trivial

set_option maxRecDepth 100000 in
set_option maxHeartbeats 1000000 in
theorem wordSet_any {H : Type} (w : World) : Calls Tryd.prog 24 #[] w fun e w' => e = .returned (.map (some w.heap.size)) ∧ w'.ownsMap (H := H) Tryd.prog 9 unitElem w.heap.size 17 Sc.wordMap ∧ Below w.heap.size w w' := by
  have hmm := @run_makeMap Tryd.prog
  have hm0 := World.ownsMap_made (H := H) w Tryd.prog 9 unitElem
  have hb0 : Below w.heap.size w (w.alloc (.map #[] 0)) := (Below.refl _ _).alloc (Nat.le_refl _) _
  go_enter Tryd.func24, Tryd.ntmps24
  go_wp2_with (show wpList _ _ _ ({ dst := _, op := Op.insert _ _ _ _, type := _, pos := _, after := _, guard := _ } :: _) _ _; go_must (refine wpList_insert_own _ rfl _ _ _ 48 rfl 9 55 law9 Tryd.underlying48 _ w.heap.size _ _ rfl hm0 (by unfold maxLen; decide) _ _ _ rfl rfl (WideMaps.keyOf_string_mk Tryd.underlying9 (by unfold maxLen; decide)) _ [] unitElem_mk ?_); go_must (intro w1 hm1 hg1; replace hb0 := hb0.grown hg1 hb0.size (fun k e => by cases e; exact Nat.le_refl _); replace hm0 := hm1; clear hm1 hg1))
  go_ret
  exact ⟨rfl, hm0, hb0⟩

theorem Sc.indexByte_hex (b : UInt8) : Lib.indexByte [48, 49, 50, 51, 52, 53, 54, 55, 56, 57, 97, 98, 99, 100, 101, 102] b = Sc.hexv b := by
  have h : ∀ n, n < 256 → Lib.indexByte [48, 49, 50, 51, 52, 53, 54, 55, 56, 57, 97, 98, 99, 100, 101, 102] (UInt8.ofNat n) = Sc.hexv (UInt8.ofNat n) := by decide +kernel
  have := h b.toNat b.toNat_lt
  simpa using this
theorem byte_back (b : UInt8) : ((b.toNat : Int)).toNat.toUInt8 = b := by simp

theorem hexI_any (b : UInt8) (w : World) : Calls Tryd.prog 28 #[.string ⟨#[48, 49, 50, 51, 52, 53, 54, 55, 56, 57, 97, 98, 99, 100, 101, 102]⟩, .int .u8 b.toNat] w fun e w' => e = .returned (.int .i64 (Sc.hexv b)) ∧ w' = w := by
  have h := Tryd.strings_IndexByte ⟨#[48, 49, 50, 51, 52, 53, 54, 55, 56, 57, 97, 98, 99, 100, 101, 102]⟩ b.toNat w
  rw [byte_back] at h
  rw [← Sc.indexByte_hex b]
  exact h

set_option maxHeartbeats 400000 in
theorem newToken_any (kind : Int) (s : ByteArray) (w : World) (hs : s.size ≤ 1048576) :
    Calls Tryd.prog 38 #[.int .i64 kind, .string s] w fun e w' => e = .returned (.agg #[.int .i64 kind, .string s, .int .i64 0, .int .i64 0]) ∧ Below w.heap.size w w' := by
  go_enter Tryd.func38, Tryd.ntmps38
  go_wp2_with (first | (go_at_call 50; refine (Tryd.stringslite_Clone s _ (by omega)).mono ?_; rintro e w1 ⟨rfl, hb⟩; obtain ⟨hc, hf⟩ := bcell hb) | go_in)
  have hb0 : Below w.heap.size w w1 := ((Below.refl _ _).alloc (Nat.le_refl _) _).trans (hb.mono (by simp))
  refine bodyPost_ret (v := .agg #[.int .i64 kind, .string s, .int .i64 0, .int .i64 0]) (by simp [results, Tryd.results38, go_sem, hc]) rfl ⟨rfl, ?_⟩
  exact below4 hb0 (Nat.le_refl _)

/-- What hexByte hands back. -/
def hexOut (l : List UInt8) : Value :=
  match l with
  | x :: y :: _ => if Sc.hexv x < 0 ∨ Sc.hexv y < 0 then .tuple #[.int .u8 0, .bool false] else .tuple #[.int .u8 (Sc.hexv x * (16 : Int) + Sc.hexv y), .bool true]
  | _ => .tuple #[.int .u8 0, .bool false]

set_option maxHeartbeats 400000 in
theorem hexByte_any (s : ByteArray) (w : World) (hs : s.size ≤ 1048576) :
    Calls Tryd.prog 39 #[.string s] w fun e w' => e = .returned (hexOut s.data.toList) ∧ w' = w := by
  by_cases h2 : s.size < 2
  · have HO : Hid (hexOut s.data.toList = .tuple #[.int .u8 0, .bool false]) := hide (by
      have : s.data.toList.length < 2 := by simpa using h2
      match hl : s.data.toList, this with
      | [], _ => rfl
      | [_], _ => rfl)
    go_enter Tryd.func39, Tryd.ntmps39
    go_wp2
    go_ret2
    exact ⟨by rw [HO.out]; rfl, rfl⟩
  · have hd : s.data.toList = s[0] :: s[1] :: s.data.toList.drop 2 := by
      have h0 := Sc.drop_cons s 0 (by omega)
      rw [Sc.drop_cons s 1 (by omega)] at h0
      simpa using h0
    have hx1 := Sc.hexv_le s[0]
    have hx2 := Sc.hexv_le s[1]
    obtain ⟨hx1a, hx1b⟩ := hx1
    obtain ⟨hx2a, hx2b⟩ := hx2
    have HD := hide hd
    clear hd
    by_cases hn1 : Sc.hexv s[0] < 0
    · have HO : Hid (hexOut s.data.toList = .tuple #[.int .u8 0, .bool false]) := hide (by rw [HD.out]; simp only [hexOut]; rw [if_pos (.inl hn1)])
      go_enter Tryd.func39, Tryd.ntmps39
      go_wp2_with (go_at_call 28; refine (hexI_any _ _).mono ?_; rintro e w' ⟨rfl, rfl⟩)
      go_ret2
      exact ⟨by rw [HO.out]; rfl, rfl⟩
    · by_cases hn2 : Sc.hexv s[1] < 0
      · have HO : Hid (hexOut s.data.toList = .tuple #[.int .u8 0, .bool false]) := hide (by rw [HD.out]; simp only [hexOut]; rw [if_pos (.inr hn2)])
        go_enter Tryd.func39, Tryd.ntmps39
        go_wp2_with (go_at_call 28; refine (hexI_any _ _).mono ?_; rintro e w' ⟨rfl, rfl⟩)
        go_ret2
        exact ⟨by rw [HO.out]; rfl, rfl⟩
      · have HO : Hid (hexOut s.data.toList = .tuple #[.int .u8 (Sc.hexv s[0] * (16 : Int) + Sc.hexv s[1]), .bool true]) := hide (by rw [HD.out]; simp only [hexOut]; rw [if_neg (by omega)])
        go_enter Tryd.func39, Tryd.ntmps39
        go_wp2_with (go_at_call 28; refine (hexI_any _ _).mono ?_; rintro e w' ⟨rfl, rfl⟩)
        go_ret2
        exact ⟨by rw [HO.out]; rfl, rfl⟩

/-- The first step over a gap. -/
def Sc.gstep (l : List UInt8) : Nat :=
  match l with
  | [] => 0
  | b :: r => if b.toNat = 32 ∨ b.toNat = 10 then 1 else if b.toNat = 35 then ((b :: r).takeWhile (fun c => c != 10)).length else 0
theorem Sc.index_take (l : List UInt8) : (0 ≤ Lib.indexByte l 10 → Lib.indexByte l 10 = (l.takeWhile (fun c => c != 10)).length) ∧ (Lib.indexByte l 10 < 0 → (l.takeWhile (fun c => c != 10)).length = l.length) := by
  induction l with
  | nil => simp [Lib.indexByte]
  | cons b r ih =>
    have hge := Lib.indexByte_ge r 10
    simp only [Lib.indexByte, List.takeWhile_cons]
    by_cases hb : b = 10
    · subst hb; simp
    · have h1 : (b == 10) = false := by simpa using hb
      have h2 : (b != 10) = true := by simpa using hb
      rw [h1, h2]
      simp only [Bool.false_eq_true, if_false, if_true, List.length_cons]
      by_cases hm : Lib.indexByte r 10 = -1
      · have h3 : (Lib.indexByte r 10 == -1) = true := by simpa using hm
        rw [h3]; simp only [if_true]
        have := ih.2 (by omega)
        omega
      · have h3 : (Lib.indexByte r 10 == -1) = false := by simpa using hm
        rw [h3]; simp only [Bool.false_eq_true, if_false]
        have := ih.1 (by omega)
        omega
theorem Sc.gap_note (l : List UInt8) : Sc.gapLen true l = (l.takeWhile (fun c => c != 10)).length + Sc.gapLen false (l.drop (l.takeWhile (fun c => c != 10)).length) := by
  induction l with
  | nil => simp [Sc.gapLen]
  | cons b r ih =>
    by_cases hb : b = 10
    · subst hb; simp [Sc.gapLen]
    · have h2 : (b != 10) = true := by simpa using hb
      have h3 : b.toNat ≠ 10 := fun h => hb (by rw [← UInt8.toNat_inj, h]; rfl)
      simp only [List.takeWhile_cons, h2, if_true, List.length_cons, List.drop_succ_cons, Sc.gapLen]
      rw [if_neg h3, ih]; omega
theorem Sc.gap_step (l : List UInt8) : Sc.gapLen false l = Sc.gstep l + Sc.gapLen false (l.drop (Sc.gstep l)) := by
  match l with
  | [] => simp [Sc.gapLen, Sc.gstep]
  | b :: r =>
    simp only [Sc.gstep]
    by_cases h1 : b.toNat = 32 ∨ b.toNat = 10
    · rw [if_pos h1]; simp only [Sc.gapLen]; rw [if_neg (by omega), if_pos h1]; simp
    · rw [if_neg h1]
      by_cases h2 : b.toNat = 35
      · rw [if_pos h2, ← Sc.gap_note (b :: r)]
        simp only [Sc.gapLen]; rw [if_pos h2, if_neg (by omega)]
      · rw [if_neg h2]; simp
theorem Sc.gstep_zero (l : List UInt8) (h : Sc.gstep l = 0) : Sc.gapLen false l = 0 := by
  match l, h with
  | [], _ => rfl
  | b :: r, h =>
    simp only [Sc.gstep] at h
    by_cases h1 : b.toNat = 32 ∨ b.toNat = 10
    · rw [if_pos h1] at h; omega
    · rw [if_neg h1] at h
      by_cases h2 : b.toNat = 35
      · rw [if_pos h2] at h
        have h3 : (b != 10) = true := by
          rw [bne_iff_ne]; intro e; subst e; simp at h2
        simp [h3] at h
      · simp only [Sc.gapLen]; rw [if_neg h2, if_neg h1]
theorem Sc.gstep_le (l : List UInt8) : Sc.gstep l ≤ l.length := by
  match l with
  | [] => simp [Sc.gstep]
  | b :: r =>
    simp only [Sc.gstep]
    split
    · simp
    · split
      · exact Sc.takeWhile_le _ _
      · simp

set_option maxHeartbeats 400000 in
theorem gapSize_any (s : ByteArray) (w : World) (h0 : 0 < s.size) :
    Calls Tryd.prog 25 #[.string s] w fun e w' => e = .returned (.int .i64 (Sc.gstep s.data.toList)) ∧ w' = w := by
  have hd : s.data.toList = s[0] :: s.data.toList.drop 1 := by simpa using Sc.drop_cons s 0 h0
  have hI := Tryd.strings_IndexByte s 10
  have hI : ∀ w, Calls Tryd.prog 28 #[.string s, .int .u8 10] w fun e w' => e = .returned (.int .i64 (Lib.indexByte s.data.toList 10)) ∧ w' = w := hI
  have hix := Sc.index_take s.data.toList
  have hge := Lib.indexByte_ge s.data.toList 10
  have HG : Hid (Sc.gstep s.data.toList = if s[0].toNat = 32 ∨ s[0].toNat = 10 then 1 else if s[0].toNat = 35 then (s.data.toList.takeWhile (fun c => c != 10)).length else 0) := hide (by rw [hd]; rfl)
  generalize Lib.indexByte s.data.toList 10 = ix at hI hix hge
  have HI := hide hI
  have HX := hide hix
  clear hI hix hd
  cases h32 : ((s[0].toNat : Int) == 32)
  · cases h10 : ((s[0].toNat : Int) == 10)
    · cases h35 : ((s[0].toNat : Int) == 35)
      · go_enter Tryd.func25, Tryd.ntmps25
        go_wp2
        go_ret
        refine ⟨ret_int ?_, rfl⟩
        simp at h32 h10 h35
        rw [HG.out, if_neg (by omega), if_neg (by omega)]; rfl
      · by_cases hix : 0 ≤ ix
        all_goals
          go_enter Tryd.func25, Tryd.ntmps25
          go_wp2_with (go_at_call 28; refine (HI.out _).mono ?_; rintro e w' ⟨rfl, rfl⟩)
          go_ret
          refine ⟨ret_int ?_, rfl⟩
          simp at h32 h10 h35
          rw [HG.out, if_neg (by omega), if_pos (by omega)]
          first | exact HX.out.1 hix | (have := HX.out.2 (by omega); rw [this]; simp)
    · go_enter Tryd.func25, Tryd.ntmps25
      go_wp2
      go_ret
      refine ⟨ret_int ?_, rfl⟩
      simp at h32 h10
      rw [HG.out, if_pos (by omega)]; rfl
  · go_enter Tryd.func25, Tryd.ntmps25
    go_wp2
    go_ret
    refine ⟨ret_int ?_, rfl⟩
    simp at h32
    rw [HG.out, if_pos (by omega)]; rfl
end Go.Proofs.YtempkondijgdgaaDoor
