/- Walks: the program's readers of numbers, names and marks. -/
import Derived.Test.YtempkondijgdgaaDoorIa
namespace Go.Proofs.YtempkondijgdgaaDoor
open Go.RowKit

namespace Sc
def dstep (a : Nat) (b : UInt8) : Nat := a * 10 + (b.toNat - 48)
theorem fold_ge : ∀ (d : List UInt8) (acc : Nat), acc ≤ d.foldl dstep acc
  | [], _ => Nat.le_refl _
  | c :: r, acc => Nat.le_trans (by unfold dstep; omega) (fold_ge r (dstep acc c))
theorem pm_ok (M : Nat) : ∀ (d : List UInt8) (acc u : Nat), Lib.parseUintM M acc d = .ok u → d.all dig = true ∧ u = d.foldl dstep acc
  | [], acc, u, h => by simp only [Lib.parseUintM] at h; injection h with h; exact ⟨rfl, h.symm⟩
  | c :: r, acc, u, h => by
    simp only [Lib.parseUintM] at h
    split at h
    · rename_i hc
      split at h
      · cases h
      · split at h
        · cases h
        · have := pm_ok M r _ u h
          exact ⟨by simp [dig, hc, this.1], this.2⟩
    · cases h
theorem pm_of : ∀ (d : List UInt8) (acc : Nat), d.all dig = true → d.foldl dstep acc ≤ 9223372036854775807 → Lib.parseUintM (2 ^ 64 - 1) acc d = .ok (d.foldl dstep acc)
  | [], acc, _, _ => rfl
  | c :: r, acc, ha, h => by
    simp only [List.all_cons, Bool.and_eq_true] at ha
    have hc := dig_bounds ha.1
    have h1 := fold_ge r (dstep acc c)
    simp only [List.foldl_cons] at h ⊢
    have h2 : acc * 10 + (c.toNat - 48) ≤ 9223372036854775807 := Nat.le_trans h1 h
    simp only [Lib.parseUintM]
    rw [if_pos hc, if_neg (by omega), if_neg (by omega)]
    exact pm_of r (dstep acc c) ha.2 h
theorem parse_ok (c : UInt8) (r : List UInt8) (hc : dig c = true) (v : Int) (h : Lib.parseIntB 64 (c :: r) = .ok v) : (c :: r).all dig = true ∧ numVal (c :: r) ≤ 9223372036854775807 ∧ v = numVal (c :: r) := by
  have hb := dig_bounds hc
  simp only [Lib.parseIntB] at h
  rw [if_neg (show ¬ (c.toNat = 43 ∨ c.toNat = 45) by omega)] at h
  simp only [Lib.parseUintB] at h
  rw [if_neg (by simp)] at h
  cases hu : Lib.parseUintM (2 ^ 64 - 1) 0 (c :: r) with
  | ok u =>
    rw [hu] at h
    simp only at h
    have h45 : ¬ c.toNat = 45 := by omega
    simp only [h45, not_false_eq_true, true_and, false_and, if_false] at h
    have := pm_ok _ _ _ _ hu
    split at h
    · cases h
    · injection h with h
      rename_i hlt
      have e : numVal (c :: r) = u := by rw [this.2]; rfl
      rw [e]
      exact ⟨this.1, by omega, h.symm⟩
  | _ => rw [hu] at h; cases h
theorem parse_of (c : UInt8) (r : List UInt8) (ha : (c :: r).all dig = true) (hv : numVal (c :: r) ≤ 9223372036854775807) : Lib.parseIntB 64 (c :: r) = .ok (numVal (c :: r)) := by
  have hb := dig_bounds (b := c) (by simp only [List.all_cons, Bool.and_eq_true] at ha; exact ha.1)
  have hp : Lib.parseUintM (2 ^ 64 - 1) 0 (c :: r) = .ok (numVal (c :: r)) := pm_of _ 0 ha hv
  simp only [Lib.parseIntB]
  rw [if_neg (show ¬ (c.toNat = 43 ∨ c.toNat = 45) by omega)]
  simp only [Lib.parseUintB]
  rw [if_neg (by simp), hp]
  have h45 : ¬ c.toNat = 45 := by omega
  simp only [h45, not_false_eq_true, true_and, false_and, if_false]
  rw [if_neg (by omega)]
end Sc

/-- What the program's readers hand back: the token without its place, its size, the code. -/
def implOut (r : Sc.R) : Value :=
  if r.code = 0 then .tuple #[.agg #[.int .i64 r.kind, .string ⟨r.text.toArray⟩, .int .i64 r.n, .int .i64 0], .int .i64 r.size, .int .i64 0]
  else .tuple #[.agg #[.int .i64 0, .string ⟨#[]⟩, .int .i64 0, .int .i64 0], .int .i64 0, .int .i64 r.code]
theorem implOut_bad {r : Sc.R} {c : Nat} (h : r = Sc.bad c) (hc : c ≠ 0) : implOut r = .tuple #[.agg #[.int .i64 0, .string ⟨#[]⟩, .int .i64 0, .int .i64 0], .int .i64 0, .int .i64 c] := by
  subst h; unfold implOut Sc.bad; rw [if_neg hc]
theorem implOut_good {r : Sc.R} {kind n size : Nat} {text : List UInt8} (h : r = ⟨0, kind, text, n, size⟩) : implOut r = .tuple #[.agg #[.int .i64 kind, .string ⟨text.toArray⟩, .int .i64 n, .int .i64 0], .int .i64 size, .int .i64 0] := by
  subst h; unfold implOut; rw [if_pos rfl]

/-- The two errors of strconv's lie where they lie. -/
def Glob (w : World) : Prop := (∃ t p, w.cell? ⟨1, 0, none⟩ = some (.iface t p)) ∧ (∃ t p, w.cell? ⟨2, 0, none⟩ = some (.iface t p)) ∧ 2 < w.heap.size
theorem Glob.below {w w' : World} {B : Nat} (h : Glob w) (hb : Below B w w') (hB : 2 < B) : Glob w' := by
  obtain ⟨⟨t, p, h1⟩, ⟨t', p', h2⟩, h3⟩ := h
  exact ⟨⟨t, p, (hb.cell (p := ⟨1, 0, none⟩) (by show 1 < B; omega)).trans h1⟩, ⟨t', p', (hb.cell (p := ⟨2, 0, none⟩) hB).trans h2⟩, Nat.lt_of_lt_of_le h3 hb.size⟩
theorem Glob.parse {w : World} (h : Glob w) (s : ByteArray) (hlim : s.size ≤ 1048576) :
    Calls Tryd.prog 37 #[.string s, .int .i64 10, .int .i64 64] w fun e w' => Below w.heap.size w w' ∧ ((∃ v, Lib.parseIntB 64 s.data.toList = .ok v ∧ e = .returned (.tuple #[.int .i64 v, .nilIface])) ∨ ((∀ v, Lib.parseIntB 64 s.data.toList ≠ .ok v) ∧ ∃ n N, e = .returned (.tuple #[.int .i64 n, .iface 72 (.pointer (some ⟨N, 0, none⟩))]))) := by
  obtain ⟨⟨t, p, h1⟩, ⟨t', p', h2⟩, _⟩ := h
  exact Tryd.parse64 s w _ _ (by omega) h1 h2 ⟨t, p, rfl⟩ ⟨t', p', rfl⟩

theorem Sc.head_cons (s : ByteArray) (h0 : 0 < s.size) : s.data.toList = s[0] :: s.data.toList.drop 1 := by simpa using Sc.drop_cons s 0 h0

set_option maxRecDepth 100000 in
set_option maxHeartbeats 1000000 in
theorem readNumber_any (s : ByteArray) (w : World) (hs : s.size ≤ 1048576) (h0 : 0 < s.size) (hd : Sc.dig s[0] = true) (hG : Glob w) :
    Calls Tryd.prog 30 #[.string s] w fun e w' => e = .returned (implOut (Sc.oneNum s.data.toList)) ∧ Below w.heap.size w w' := by
  have hcons := Sc.head_cons s h0
  have hle := Sc.takeWhile_le Sc.nm s.data.toList
  have hlen : s.data.toList.length = s.size := by simp
  rw [hlen] at hle
  have hx : (s.extract 0 (s.data.toList.takeWhile Sc.nm).length).data.toList = s.data.toList.takeWhile Sc.nm := by
    rw [Lib.extract_data]; simp [Sc.takeWhile_take]
  have htw : s.data.toList.takeWhile Sc.nm = s[0] :: (s.data.toList.drop 1).takeWhile Sc.nm := by
    conv => lhs; rw [hcons]
    rw [List.takeWhile_cons, if_pos (Sc.dig_nm hd)]
  have h48 : s.data.toList.head? = some 48 ↔ s[0].toNat = 48 := by
    rw [hcons]; simp only [List.head?_cons, Option.some.injEq]; rw [← UInt8.toNat_inj]; rfl
  have ho : Sc.oneNum s.data.toList = if (s.data.toList.takeWhile Sc.nm).all Sc.dig = true ∧ Sc.numVal (s.data.toList.takeWhile Sc.nm) ≤ 9223372036854775807 ∧ ¬ (s.data.toList.head? = some 48 ∧ 1 < (s.data.toList.takeWhile Sc.nm).length) then ⟨0, 3, [], Sc.numVal (s.data.toList.takeWhile Sc.nm), (s.data.toList.takeWhile Sc.nm).length⟩ else Sc.bad 3 := rfl
  have hP : Lib.parseIntB 64 (s.data.toList.takeWhile Sc.nm) = .ok (Sc.numVal (s.data.toList.takeWhile Sc.nm)) ∧ (s.data.toList.takeWhile Sc.nm).all Sc.dig = true ∧ Sc.numVal (s.data.toList.takeWhile Sc.nm) ≤ 9223372036854775807 ∨ (∀ v, Lib.parseIntB 64 (s.data.toList.takeWhile Sc.nm) ≠ .ok v) ∧ Sc.oneNum s.data.toList = Sc.bad 3 := by
    rw [ho]
    by_cases hc : (s.data.toList.takeWhile Sc.nm).all Sc.dig = true ∧ Sc.numVal (s.data.toList.takeWhile Sc.nm) ≤ 9223372036854775807
    · left
      refine ⟨?_, hc⟩
      rw [htw] at hc ⊢
      exact Sc.parse_of _ _ hc.1 hc.2
    · right
      refine ⟨fun v hv => hc ?_, if_neg (fun h => hc ⟨h.1, h.2.1⟩)⟩
      rw [htw] at hv ⊢
      have := Sc.parse_ok _ _ hd v hv
      exact ⟨this.1, this.2.1⟩
  have hN := nameSize_any s
  generalize htk : s.data.toList.takeWhile Sc.nm = d at *
  clear htk
  have HX := hide hx
  have HP := hide hP
  have HO := hide ho
  have H48 := hide h48
  have HN := hide hN
  have hpos : 1 ≤ d.length := by rw [htw]; simp
  clear hx hP ho h48 hN hcons hlen htw
  go_enter Tryd.func30, Tryd.ntmps30
  go_wp2_with (first | (go_at_call 36; refine (HN.out _ hs).mono ?_; rintro e w' ⟨rfl, rfl⟩))
  have hG1 : Glob (w.alloc (.cells #[.int .i64 0, .string ⟨#[]⟩, .int .i64 0, .int .i64 0] 33)) := hG.below ((Below.refl _ _).alloc (Nat.le_refl _) _) hG.2.2
  refine (hG1.parse (s.extract 0 d.length) (by simp; omega)).mono ?_
  clear hG1
  rintro e w1 ⟨hb, hres⟩
  obtain ⟨hc, hf⟩ := bcell hb
  have hb0 : Below w.heap.size w w1 := ((Below.refl _ _).alloc (Nat.le_refl _) _).trans (hb.mono (by simp))
  rcases hres with ⟨v, hv, rfl⟩ | ⟨hno, n, N, rfl⟩
  · rw [HX.out] at hv
    rcases HP.out with ⟨hp, ha, hle2⟩ | ⟨hno, _⟩
    · rw [hp] at hv
      injection hv with hv
      subst hv
      have HA := hide ha
      clear ha hp
      cases hz : ((s[0].toNat : Int) == 48)
      · have HB : Hid (Sc.oneNum s.data.toList = ⟨0, 3, [], Sc.numVal d, d.length⟩) := hide (by rw [HO.out, if_pos ⟨HA.out, hle2, fun h => by have := H48.out.1 h.1; simp at hz; omega⟩])
        go_wp2
        refine bodyPost_ret (v := .tuple #[.agg #[.int .i64 3, .string ⟨#[]⟩, .int .i64 (Sc.numVal d), .int .i64 0], .int .i64 d.length, .int .i64 0]) (by simp [results, Tryd.results30, go_sem, hc]) rfl ⟨by rw [implOut_good HB.out]; rfl, ?_⟩
        exact below4 hb0 (Nat.le_refl _)
      · by_cases hl : 1 < d.length
        · have HB : Hid (Sc.oneNum s.data.toList = Sc.bad 3) := hide (by rw [HO.out, if_neg (fun h => h.2.2 ⟨H48.out.2 (by simp at hz; omega), hl⟩)])
          go_wp2
          refine bodyPost_ret (v := .tuple #[.agg #[.int .i64 0, .string ⟨#[]⟩, .int .i64 0, .int .i64 0], .int .i64 0, .int .i64 3]) (by simp [results, Tryd.results30, go_sem, hc]) rfl ⟨by rw [implOut_bad HB.out (by decide)]; rfl, ?_⟩
          exact below4 hb0 (Nat.le_refl _)
        · have HB : Hid (Sc.oneNum s.data.toList = ⟨0, 3, [], Sc.numVal d, d.length⟩) := hide (by rw [HO.out, if_pos ⟨HA.out, hle2, fun h => hl h.2⟩])
          go_wp2
          refine bodyPost_ret (v := .tuple #[.agg #[.int .i64 3, .string ⟨#[]⟩, .int .i64 (Sc.numVal d), .int .i64 0], .int .i64 d.length, .int .i64 0]) (by simp [results, Tryd.results30, go_sem, hc]) rfl ⟨by rw [implOut_good HB.out]; rfl, ?_⟩
          exact below4 hb0 (Nat.le_refl _)
    · exact absurd hv (hno v)
  · rcases HP.out with ⟨hp, _⟩ | ⟨_, hbad⟩
    · exact absurd (by rw [HX.out]; exact hp) (hno _)
    · have HB := hide hbad
      clear hbad hno
      go_wp2
      refine bodyPost_ret (v := .tuple #[.agg #[.int .i64 0, .string ⟨#[]⟩, .int .i64 0, .int .i64 0], .int .i64 0, .int .i64 3]) (by simp [results, Tryd.results30, go_sem, hc]) rfl ⟨by rw [implOut_bad HB.out (by decide)]; rfl, ?_⟩
      exact below4 hb0 (Nat.le_refl _)

theorem Sc.word_len (l : List UInt8) (h : Sc.isWord l = true) : l.length ≤ 5 := by
  have h1 : ∀ x ∈ Sc.words, x.length ≤ 5 := by decide
  exact h1 l (by simpa [Sc.isWord] using h)

theorem zero55 (w : World) : (zeroValue 55).run Tryd.prog w = .ok (.agg #[]) w := by kernel_rfl

set_option maxRecDepth 100000 in
set_option maxHeartbeats 1000000 in
theorem readName_any (s : ByteArray) (b : Nat) (w : World) (hs : s.size ≤ 1048576) (hm : w.ownsMap (H := Unit) Tryd.prog 9 unitElem b 17 Sc.wordMap) :
    Calls Tryd.prog 32 #[.string s, .map (some b)] w fun e w' => e = .returned (implOut (Sc.oneName s.data.toList)) ∧ Below w.heap.size w w' := by
  have hle := Sc.takeWhile_le Sc.nm s.data.toList
  have hlen : s.data.toList.length = s.size := by simp
  rw [hlen] at hle
  have hx : (s.extract 0 (s.data.toList.takeWhile Sc.nm).length).data.toList = s.data.toList.takeWhile Sc.nm := by
    rw [Lib.extract_data]; simp [Sc.takeWhile_take]
  have ho : Sc.oneName s.data.toList = if (s.data.toList.takeWhile Sc.nm) ∈ Sc.words then ⟨0, 2, s.data.toList.takeWhile Sc.nm, 0, (s.data.toList.takeWhile Sc.nm).length⟩ else if 30 < (s.data.toList.takeWhile Sc.nm).length then Sc.bad 5 else ⟨0, 1, s.data.toList.takeWhile Sc.nm, 0, (s.data.toList.takeWhile Sc.nm).length⟩ := rfl
  have hN := nameSize_any s
  have hwl := Sc.word_len (s.data.toList.takeWhile Sc.nm)
  have hw : Sc.isWord (s.data.toList.takeWhile Sc.nm) = decide ((s.data.toList.takeWhile Sc.nm) ∈ Sc.words) := rfl
  have hh := Sc.has_word (H := Unit) (s.data.toList.takeWhile Sc.nm)
  generalize s.data.toList.takeWhile Sc.nm = d at *
  have hkey : keyOf Tryd.prog 9 (.string (s.extract 0 d.length)) = some (.string d) := by
    rw [WideMaps.keyOf_string_mk Tryd.underlying9 (by unfold maxLen; simp; omega), hx]
  have HX := hide hx
  have HO := hide ho
  have HN := hide hN
  have HK := hide hkey
  have HW := hide hw
  have HWL := hide hwl
  have HH := hide hh
  clear hx ho hN hlen hkey hw hwl hh
  by_cases h30 : 30 < d.length
  · have HB : Hid (Sc.oneName s.data.toList = Sc.bad 5) := hide (by
      rw [HO.out, if_neg, if_pos h30]
      intro h; have := HWL.out (by rw [HW.out]; simpa using h); omega)
    go_enter Tryd.func32, Tryd.ntmps32
    go_wp2_with (go_at_call 36; refine (HN.out _ hs).mono ?_; rintro e w' ⟨rfl, rfl⟩)
    refine bodyPost_ret (v := .tuple #[.agg #[.int .i64 0, .string ⟨#[]⟩, .int .i64 0, .int .i64 0], .int .i64 0, .int .i64 5]) (by simp [results, Tryd.results32, go_sem]) rfl ⟨by rw [implOut_bad HB.out (by decide)]; rfl, ?_⟩
    exact (Below.refl _ _).alloc (Nat.le_refl _) _
  · cases hiw : Sc.isWord d
    · have hhas : Maps.has (Sc.wordMap (H := Unit)) (.string d) = false := HH.out.trans hiw
      have HB : Hid (Sc.oneName s.data.toList = ⟨0, 1, d, 0, d.length⟩) := hide (by rw [HO.out, if_neg (by have := HW.out; rw [hiw] at this; simpa using this.symm), if_neg h30])
      go_enter Tryd.func32, Tryd.ntmps32
      go_wp2_with (first | (go_at_call 36; refine (HN.out _ hs).mono ?_; rintro e w' ⟨rfl, rfl⟩) | (at_lookup; refine wpList_lookup_own_unit _ rfl _ _ 48 rfl 9 55 law9 Tryd.underlying48 (zero55 _) b 17 Sc.wordMap rfl (hm.alloc _) _ _ rfl HK.out ?_) | (go_at_call 38; refine (newToken_any 1 _ _ ?_).mono ?_))
      · simp; omega
      · rintro e w1 ⟨rfl, hb⟩
        obtain ⟨hc, hf⟩ := bcell hb
        have hb0 : Below w.heap.size w w1 := (((Below.refl _ _).alloc (Nat.le_refl _) _).alloc (by simp) _).trans (hb.mono (by simp; omega))
        have hz : w.heap.size < w1.heap.size := by have := hb.size; simp at this; omega
        have hz2 : w.heap.size < w.heap.size + 1 + 1 := by omega
        go_wp2
        refine bodyPost_ret (v := .tuple #[.agg #[.int .i64 1, .string (s.extract 0 d.length), .int .i64 0, .int .i64 0], .int .i64 d.length, .int .i64 0]) (by simp [results, Tryd.results32, go_sem, hc, hz2]) rfl ⟨by rw [implOut_good HB.out, ext_mk HX.out]; rfl, ?_⟩
        exact below4 hb0 (Nat.le_refl _)
    · have hhas : Maps.has (Sc.wordMap (H := Unit)) (.string d) = true := HH.out.trans hiw
      have HB : Hid (Sc.oneName s.data.toList = ⟨0, 2, d, 0, d.length⟩) := hide (by rw [HO.out, if_pos (by have := HW.out; rw [hiw] at this; simpa using this.symm)])
      go_enter Tryd.func32, Tryd.ntmps32
      go_wp2_with (first | (go_at_call 36; refine (HN.out _ hs).mono ?_; rintro e w' ⟨rfl, rfl⟩) | (at_lookup; refine wpList_lookup_own_unit _ rfl _ _ 48 rfl 9 55 law9 Tryd.underlying48 (zero55 _) b 17 Sc.wordMap rfl (hm.alloc _) _ _ rfl HK.out ?_) | (go_at_call 38; refine (newToken_any 2 _ _ ?_).mono ?_))
      · simp; omega
      · rintro e w1 ⟨rfl, hb⟩
        obtain ⟨hc, hf⟩ := bcell hb
        have hb0 : Below w.heap.size w w1 := (((Below.refl _ _).alloc (Nat.le_refl _) _).alloc (by simp) _).trans (hb.mono (by simp; omega))
        have hz : w.heap.size < w1.heap.size := by have := hb.size; simp at this; omega
        have hz2 : w.heap.size < w.heap.size + 1 + 1 := by omega
        go_wp2
        refine bodyPost_ret (v := .tuple #[.agg #[.int .i64 2, .string (s.extract 0 d.length), .int .i64 0, .int .i64 0], .int .i64 d.length, .int .i64 0]) (by simp [results, Tryd.results32, go_sem, hc, hz2]) rfl ⟨by rw [implOut_good HB.out, ext_mk HX.out]; rfl, ?_⟩
        exact below4 hb0 (Nat.le_refl _)

namespace Sc
def dbl : List (List UInt8) := [[61, 61], [33, 61], [60, 61], [62, 61], [61, 62]]
def sgl : List UInt8 := [40, 41, 91, 93, 123, 125, 44, 59, 58, 46, 61, 60, 62, 43, 45, 42, 47, 37]
theorem marks_eq : marks = dbl ++ sgl.map (fun c => [c]) := rfl
theorem sgl_find (b : UInt8) (r : List UInt8) : ∀ sb : List UInt8, (sb.map fun c => [c]).find? (fun m => m.isPrefixOf (b :: r)) = if sb.contains b then some [b] else none
  | [] => rfl
  | c :: sb => by
    have ih := sgl_find b r sb
    simp only [List.map_cons, List.find?_cons, List.contains_cons]
    by_cases h : c = b
    · subst h; simp [List.isPrefixOf]
    · have h1 : (c == b) = false := by simpa using h
      have h2 : (b == c) = false := by simpa using fun e : b = c => h e.symm
      simp only [List.isPrefixOf, h1, h2, Bool.false_and, Bool.false_or, ih]
theorem mark_dbl (l : List UInt8) (m : List UInt8) (h : dbl.find? (fun m => m.isPrefixOf l) = some m) : oneMark l = ⟨0, 5, m, 0, m.length⟩ := by
  unfold oneMark; rw [marks_eq, List.find?_append, h]; rfl
theorem mark_sgl (b : UInt8) (r : List UInt8) (h : dbl.find? (fun m => m.isPrefixOf (b :: r)) = none) : oneMark (b :: r) = if sgl.contains b then ⟨0, 5, [b], 0, 1⟩ else bad 2 := by
  unfold oneMark; rw [marks_eq, List.find?_append, h, sgl_find b r sgl]
  by_cases hc : sgl.contains b = true
  · rw [if_pos hc, if_pos hc]; rfl
  · rw [if_neg hc, if_neg hc]; rfl
end Sc

set_option maxRecDepth 100000 in
set_option maxHeartbeats 1000000 in
theorem markSize_any (s : ByteArray) (w : World) (h0 : 0 < s.size) :
    Calls Tryd.prog 40 #[.string s] w fun e w' => e = .returned (.int .i64 (Sc.oneMark s.data.toList).size) ∧ w' = w := by
  have hI := fun w => Tryd.strings_IndexByte ⟨#[40, 41, 91, 93, 123, 125, 44, 59, 58, 46, 61, 60, 62, 43, 45, 42, 47, 37]⟩ s[0].toNat w
  rw [byte_back] at hI
  have hI : ∀ w, Calls Tryd.prog 28 #[.string ⟨#[40, 41, 91, 93, 123, 125, 44, 59, 58, 46, 61, 60, 62, 43, 45, 42, 47, 37]⟩, .int .u8 s[0].toNat] w fun e w' => e = .returned (.int .i64 (Lib.indexByte Sc.sgl s[0])) ∧ w' = w := hI
  have hci := hide (Lib.contains_iff_indexByte Sc.sgl s[0])
  have hcons := hide (Sc.head_cons s h0)
  have hP : Hid (∀ m : List UInt8, m.length = 2 → m.isPrefixOf s.data.toList = ((s.extract 0 2).toList == m)) := hide (fun m h => by have := Sc.pre_eq s 0 m; rw [h] at this; simpa using this)
  generalize Lib.indexByte Sc.sgl s[0] = ix at hI hci
  have HI := hide hI
  clear hI
  by_cases h1 : 1 < s.size
  · cases hq1 : ((s.extract 0 2).toList == [61, 61])
    · cases hq2 : ((s.extract 0 2).toList == [33, 61])
      · cases hq3 : ((s.extract 0 2).toList == [60, 61])
        · cases hq4 : ((s.extract 0 2).toList == [62, 61])
          · cases hq5 : ((s.extract 0 2).toList == [61, 62])
            · have HD : Hid (Sc.dbl.find? (fun m => m.isPrefixOf s.data.toList) = none) := hide (by simp only [Sc.dbl, List.find?_cons, List.find?_nil, hP.out _ (show ([61, 61] : List UInt8).length = 2 from rfl), hP.out _ (show ([33, 61] : List UInt8).length = 2 from rfl), hP.out _ (show ([60, 61] : List UInt8).length = 2 from rfl), hP.out _ (show ([62, 61] : List UInt8).length = 2 from rfl), hP.out _ (show ([61, 62] : List UInt8).length = 2 from rfl), hq1, hq2, hq3, hq4, hq5])
              have HS : Hid (Sc.oneMark s.data.toList = if Sc.sgl.contains s[0] then ⟨0, 5, [s[0]], 0, 1⟩ else Sc.bad 2) := hide (by have h := HD.out; have hc := hcons.out; generalize s.data.toList.drop 1 = r at hc; rw [hc] at h ⊢; exact Sc.mark_sgl _ _ h)
              by_cases hix : 0 ≤ ix
              · go_enter Tryd.func40, Tryd.ntmps40
                go_wp2_with (go_at_call 28; refine (HI.out _).mono ?_; rintro e w' ⟨rfl, rfl⟩)
                go_ret
                exact ⟨ret_int (by rw [HS.out, if_pos (by rw [hci.out]; simpa using hix)]; rfl), rfl⟩
              · go_enter Tryd.func40, Tryd.ntmps40
                go_wp2_with (go_at_call 28; refine (HI.out _).mono ?_; rintro e w' ⟨rfl, rfl⟩)
                go_ret
                exact ⟨ret_int (by rw [HS.out, if_neg (by rw [hci.out]; simpa using hix)]; rfl), rfl⟩
            · have HO := hide (Sc.mark_dbl s.data.toList [61, 62] (by simp only [Sc.dbl, List.find?_cons, hP.out _ (show ([61, 61] : List UInt8).length = 2 from rfl), hP.out _ (show ([33, 61] : List UInt8).length = 2 from rfl), hP.out _ (show ([60, 61] : List UInt8).length = 2 from rfl), hP.out _ (show ([62, 61] : List UInt8).length = 2 from rfl), hP.out _ (show ([61, 62] : List UInt8).length = 2 from rfl), hq1, hq2, hq3, hq4, hq5]))
              go_enter Tryd.func40, Tryd.ntmps40
              go_wp2
              go_ret
              exact ⟨ret_int (by rw [HO.out]; rfl), rfl⟩
          · have HO := hide (Sc.mark_dbl s.data.toList [62, 61] (by simp only [Sc.dbl, List.find?_cons, hP.out _ (show ([61, 61] : List UInt8).length = 2 from rfl), hP.out _ (show ([33, 61] : List UInt8).length = 2 from rfl), hP.out _ (show ([60, 61] : List UInt8).length = 2 from rfl), hP.out _ (show ([62, 61] : List UInt8).length = 2 from rfl), hq1, hq2, hq3, hq4]))
            go_enter Tryd.func40, Tryd.ntmps40
            go_wp2
            go_ret
            exact ⟨ret_int (by rw [HO.out]; rfl), rfl⟩
        · have HO := hide (Sc.mark_dbl s.data.toList [60, 61] (by simp only [Sc.dbl, List.find?_cons, hP.out _ (show ([61, 61] : List UInt8).length = 2 from rfl), hP.out _ (show ([33, 61] : List UInt8).length = 2 from rfl), hP.out _ (show ([60, 61] : List UInt8).length = 2 from rfl), hq1, hq2, hq3]))
          go_enter Tryd.func40, Tryd.ntmps40
          go_wp2
          go_ret
          exact ⟨ret_int (by rw [HO.out]; rfl), rfl⟩
      · have HO := hide (Sc.mark_dbl s.data.toList [33, 61] (by simp only [Sc.dbl, List.find?_cons, hP.out _ (show ([61, 61] : List UInt8).length = 2 from rfl), hP.out _ (show ([33, 61] : List UInt8).length = 2 from rfl), hq1, hq2]))
        go_enter Tryd.func40, Tryd.ntmps40
        go_wp2
        go_ret
        exact ⟨ret_int (by rw [HO.out]; rfl), rfl⟩
    · have HO := hide (Sc.mark_dbl s.data.toList [61, 61] (by simp only [Sc.dbl, List.find?_cons, hP.out _ (show ([61, 61] : List UInt8).length = 2 from rfl), hq1]))
      go_enter Tryd.func40, Tryd.ntmps40
      go_wp2
      go_ret
      exact ⟨ret_int (by rw [HO.out]; rfl), rfl⟩
  · have HD : Hid (Sc.dbl.find? (fun m => m.isPrefixOf s.data.toList) = none) := hide (by
      rw [List.find?_eq_none]
      intro m hm hp
      have h2 : m.length = 2 := by
        have : ∀ x ∈ Sc.dbl, x.length = 2 := by decide
        exact this m hm
      have := (List.isPrefixOf_iff_prefix.1 hp).length_le
      simp at this
      omega)
    have HS : Hid (Sc.oneMark s.data.toList = if Sc.sgl.contains s[0] then ⟨0, 5, [s[0]], 0, 1⟩ else Sc.bad 2) := hide (by have h := HD.out; have hc := hcons.out; generalize s.data.toList.drop 1 = r at hc; rw [hc] at h ⊢; exact Sc.mark_sgl _ _ h)
    by_cases hix : 0 ≤ ix
    · go_enter Tryd.func40, Tryd.ntmps40
      go_wp2_with (go_at_call 28; refine (HI.out _).mono ?_; rintro e w' ⟨rfl, rfl⟩)
      go_ret
      exact ⟨ret_int (by rw [HS.out, if_pos (by rw [hci.out]; simpa using hix)]; rfl), rfl⟩
    · go_enter Tryd.func40, Tryd.ntmps40
      go_wp2_with (go_at_call 28; refine (HI.out _).mono ?_; rintro e w' ⟨rfl, rfl⟩)
      go_ret
      exact ⟨ret_int (by rw [HS.out, if_neg (by rw [hci.out]; simpa using hix)]; rfl), rfl⟩
end Go.Proofs.YtempkondijgdgaaDoor
