/- Targets, the specification's side: lists of texts. -/
import Derived.Test.YtmpjdooepdicoaaGreatDoorYa
import Derived.Deep.CutRange
namespace Go.Proofs.YtmpjdooepdicoaaGreatDoor.Vl
open Go.RowKit T.atoms T.ok T.high T.good T.allPlain

theorem ba_eq (a b : ByteArray) : (a.toList == b.toList) = decide (a = b) := by
  rw [Lib.toList_data, Lib.toList_data, Bool.eq_iff_iff]
  simp only [beq_iff_eq, decide_eq_true_eq]
  constructor
  · intro h; exact ByteArray.ext (Array.toList_inj.1 h)
  · rintro rfl; rfl
def memS (s : ByteArray) (l : List ByteArray) : Bool := l.any fun x => decide (x = s)
theorem memS_iff {s : ByteArray} {l : List ByteArray} : memS s l = true ↔ s ∈ l := by simp [memS]
theorem memS_not {s : ByteArray} {l : List ByteArray} : memS s l = false ↔ s ∉ l := by rw [← memS_iff]; simp
def cellsT (l : List ByteArray) : List Value := l.map .string
def StrsO (w : World) (g o : Nat) (l : List ByteArray) : Prop := g < w.heap.size ∧ ∀ i (h : i < l.length), w.cell? ⟨g, o + i, none⟩ = some (.string l[i])
theorem StrsO.heap {w w' : World} {g o : Nat} {l : List ByteArray} (h : StrsO w g o l) (hb : w'.heap[g]? = w.heap[g]?) : StrsO w' g o l := by
  refine ⟨?_, fun i hi => (World.cell?_of_block (a := ⟨g, o + i, none⟩) hb).trans (h.2 i hi)⟩
  have h1 := h.1
  rcases Nat.lt_or_ge g w'.heap.size with h2 | h2
  · exact h2
  · rw [Array.getElem?_eq_none h2, Array.getElem?_eq_getElem h1] at hb; cases hb
theorem StrsO.below {w w' : World} {g o : Nat} {l : List ByteArray} (h : StrsO w g o l) (hb : Below w.heap.size w w') : StrsO w' g o l := h.heap (hb.block g h.1)
def StrsV (w : World) (v : Value) (l : List ByteArray) : Prop := (∃ p c, v = .slice p 0 c ∧ l = []) ∨ ∃ g o c, v = .slice (some ⟨g, o, none⟩) l.length c ∧ StrsO w g o l
theorem StrsV.below {w w' : World} {v : Value} {l : List ByteArray} (h : StrsV w v l) (hb : Below w.heap.size w w') : StrsV w' v l := by
  rcases h with h | ⟨g, o, c, h1, h2⟩
  · exact .inl h
  · exact .inr ⟨g, o, c, h1, h2.below hb⟩
theorem strs_of_row {w : World} {base : Nat} {e : TypeId} {g cap : Nat} {l : List ByteArray} (h : w.ownsRow base e 1 (.slice (some ⟨g, 0, none⟩) l.length cap) l.length (cellsT l)) : StrsO w g 0 l := by
  refine ⟨(h.lt g rfl).2, fun i hi => ?_⟩
  have := h.cellAt i (by simpa using hi)
  rw [Nat.zero_add, this]
  simp [cellsT, hi]

set_option maxRecDepth 100000 in
set_option maxHeartbeats 400000 in
theorem has1_some (l : List ByteArray) (s : ByteArray) (g o c : Nat) (w : World) (hl : l.length ≤ 1099511627776) (hc : StrsO w g o l) :
    Calls Tryz.prog 16 #[.slice (some ⟨g, o, none⟩) l.length c, .string s] w fun e w' => e = .returned (.bool (memS s l)) ∧ w' = w := by
  go_enter Tryz.func16, Tryz.ntmps16
  go_wp2
  go_loop [5] (fun t => ∃ j : Nat, j ≤ l.length ∧ t = .int .i64 j ∧ ∀ i (h : i < l.length), i < j → l[i] ≠ s) (fun t => l.length - (intOf t).toNat)
  case atStart => exact ⟨0, Nat.zero_le _, rfl, fun i _ h => by omega⟩
  case round =>
    obtain ⟨j, hj, rfl, he⟩ := hrel
    have HE := hide he
    clear he
    by_cases hlt : j < l.length
    · have hcj := hc.2 j hlt
      have hb := ba_eq l[j] s
      by_cases hq : l[j] = s
      · rw [decide_eq_true hq] at hb
        go_wp2
        go_ret
        refine ⟨ret_bool ?_, rfl⟩
        rw [eq_comm, memS_iff, ← hq]
        exact List.getElem_mem _
      · rw [decide_eq_false hq] at hb
        go_wp2
        go_round
        case rel =>
          refine ⟨j + 1, by omega, by go_num, ?_⟩
          intro i hi hij
          by_cases e : i = j
          · subst e; exact hq
          · exact HE.out i hi (by omega)
        case measure => simp [intOf]; omega
    · go_wp2
      go_ret
      refine ⟨ret_bool ?_, rfl⟩
      rw [eq_comm, memS_not]
      intro hm
      obtain ⟨i, hi, e⟩ := List.getElem_of_mem hm
      exact HE.out i hi (by omega) e
set_option maxRecDepth 100000 in
set_option maxHeartbeats 400000 in
theorem has1_none (s : ByteArray) (p : Option Addr) (c : Nat) (w : World) :
    Calls Tryz.prog 16 #[.slice p 0 c, .string s] w fun e w' => e = .returned (.bool false) ∧ w' = w := by
  go_enter Tryz.func16, Tryz.ntmps16
  go_wp2
  go_loopw [5] (fun u wr => u = .int .i64 0 ∧ wr = w) (fun _ _ => 0)
  case atStart => exact ⟨rfl, rfl⟩
  case round =>
    obtain ⟨rfl, rfl⟩ := hrel
    go_wp2
    go_ret
    exact ⟨rfl, rfl⟩
theorem has1_any (l : List ByteArray) (s : ByteArray) (v : Value) (w : World) (hl : l.length ≤ 1099511627776) (hv : StrsV w v l) :
    Calls Tryz.prog 16 #[v, .string s] w fun e w' => e = .returned (.bool (memS s l)) ∧ w' = w := by
  rcases hv with ⟨p, c, rfl, rfl⟩ | ⟨g, o, c, rfl, h⟩
  · exact has1_none s p c w
  · exact has1_some l s g o c w hl h

theorem getAt_lt {ks : List T} {s : ByteArray} {i : Nat} (h : getAt ks s = some i) : i + 1 < ks.length := by
  unfold getAt at h
  have h2 := List.find?_some h
  unfold isAt at h2
  simp only [Bool.and_eq_true, decide_eq_true_eq] at h2
  exact h2.1.2
/-- A text that a record names. -/
def text9 (ks : List T) (s : ByteArray) (need : Bool) : ByteArray × Bool := match getAt ks s with
  | none => (⟨#[]⟩, !need)
  | some i => match ks[i + 1]? with
    | none => (⟨#[]⟩, false)
    | some x => (x.text, decide (x.kind = 4) && (!need || !decide (x.text = ⟨#[]⟩)))
/-- The box of l9Text. -/
structure XB (w : World) (b : Nat) (v : Value) (W : World) : Prop where
  B : Below w.heap.size w W
  c : W.cell? ⟨b, 0, none⟩ = some v
  z : b < W.heap.size
theorem XB.below {w W W' : World} {b : Nat} {v : Value} (h : XB w b v W) (hb : Below W.heap.size W W') : XB w b v W' :=
  ⟨h.B.trans (hb.mono h.B.size), (hb.cell (p := ⟨b, 0, none⟩) h.z).trans h.c, Nat.lt_of_lt_of_le h.z hb.size⟩
theorem XB.drew {w W : World} {b : Nat} {v : Value} (h : XB w b v W) : XB w b v W.drew := ⟨h.B.drew, h.c, h.z⟩
theorem XB.new {w W : World} (v : Value) (t : TypeId) (hB : Below w.heap.size w W) : XB w W.heap.size v (W.alloc (.cells #[v] t)) :=
  ⟨hB.alloc hB.size _, (cell_new W v t).1, by simp⟩

set_option maxRecDepth 100000 in
set_option maxHeartbeats 400000 in
theorem text9_none (t : T) (s : ByteArray) (need : Bool) (g o c m : Nat) (w : World) (hm : t.count = m + 1) (h1 : m < 1000) (hc : m + 1 ≤ c) (ht : AtomsO w g o t.atoms) (hga : getAt t.ks s = none) :
    Calls Tryz.prog 36 #[.agg #[.slice (some ⟨g, o, none⟩) (m + 1) c], .string s, .bool need] w fun e w' => e = .returned (.tuple #[.string ⟨#[]⟩, .bool (!need)]) ∧ Below w.heap.size w w' := by
  have HG := hide (fun w1 (hb : Below w.heap.size w w1) => get5_any t s g o c m w1 hm h1 hc (ht.below hb))
  clear ht hm
  have o0 := XB.new (.slice (some ⟨g, o, none⟩) (m + 1) c) 45 (Below.refl w.heap.size w)
  go_enter Tryz.func36, Tryz.ntmps36
  go_wp2_with fail
  refine (HG.out _ o0.B).mono ?_
  rintro e w1 ⟨hb1, hgp⟩
  have B1 := o0.B.trans (hb1.mono o0.B.size)
  rw [hga] at hgp
  obtain rfl := hgp
  go_wp2
  refine bodyPost_ret (v := .tuple #[.string ⟨#[]⟩, .bool (!need)]) (by simp [results, Tryz.results36, go_sem]) rfl ?_
  exact ⟨rfl, B1.alloc B1.size _⟩
set_option maxRecDepth 100000 in
set_option maxHeartbeats 2000000 in
theorem text9_some (t x : T) (i : Nat) (s : ByteArray) (need : Bool) (g o c m : Nat) (w : World) (hm : t.count = m + 1) (h1 : m < 1000) (hc : m + 1 ≤ c) (ht : AtomsO w g o t.atoms) (hga : getAt t.ks s = some i) (hx : t.ks[i + 1]? = some x) :
    Calls Tryz.prog 36 #[.agg #[.slice (some ⟨g, o, none⟩) (m + 1) c], .string s, .bool need] w fun e w' => e = .returned (.tuple #[.string x.text, .bool (decide (x.kind = 4) && (!need || !decide (x.text = ⟨#[]⟩)))]) ∧ Below w.heap.size w w' := by
  have HG := hide (fun w1 (hb : Below w.heap.size w w1) => get5_any t s g o c m w1 hm h1 hc (ht.below hb))
  have hE := hide (T.count_eq t)
  have HM := hide hm
  clear ht hm
  have o0 := XB.new (.slice (some ⟨g, o, none⟩) (m + 1) c) 45 (Below.refl w.heap.size w)
  have hbe := ba_eq x.text ⟨#[]⟩
  go_enter Tryz.func36, Tryz.ntmps36
  go_wp2_with fail
  refine (HG.out _ o0.B).mono ?_
  rintro e w1 ⟨hb1, hgp⟩
  have B1 := o0.B.trans (hb1.mono o0.B.size)
  rw [hga] at hgp
  obtain ⟨hi, gx, ox, cx, rfl, hatx, hcx⟩ := hgp
  have hxe : t.ks[i + 1] = x := by rw [List.getElem?_eq_getElem hi] at hx; exact Option.some.inj hx
  have hsx := count_mem t.ks (i + 1) hi
  rw [hxe] at hatx hcx hsx ⊢
  obtain ⟨mx, hmx⟩ : ∃ mx, x.count = mx + 1 := ⟨x.count - 1, by have := atoms_pos x; unfold T.count; omega⟩
  have hmx1 : mx < 1000 := by have := hE.out; have := HM.out; omega
  have O1 := hide (XB.new (.slice (some ⟨gx, ox, none⟩) (mx + 1) cx) 45 B1)
  have r1 : Below w1.heap.size w1 (w1.alloc (.cells #[.slice (some ⟨gx, ox, none⟩) (mx + 1) cx] 45)) := (Below.refl _ _).alloc (Nat.le_refl _) _
  have HLA := hide (fun w' (hb : Below w1.heap.size w1 w') => last_any ⟨x.kind, x.num, x.text, x.ks.length⟩ x.atoms gx ox cx mx w' hmx (by omega) (atoms_last _ mx hmx) (hatx.below hb))
  have HKA := hide (fun w' (hb : Below w1.heap.size w1 w') => kind6_any ⟨x.kind, x.num, x.text, x.ks.length⟩ x.atoms gx ox cx mx w' hmx (by omega) (atoms_last _ mx hmx) (hatx.below hb))
  have HF := fun w => fld2' x.kind x.num x.ks.length x.text w
  rw [hmx]
  clear hatx hsx hx hxe hga hb1 o0 HG
  have c1 := O1.out.c
  have HL2 := hide (fun q : KB (w1.alloc (.cells #[.slice (some ⟨gx, ox, none⟩) (mx + 1) cx] 45)) => kb_call (fun w2 hb => HLA.out w2 (r1.trans (hb.mono r1.size))) q)
  have HK2 := hide (fun q : KB (w1.alloc (.cells #[.slice (some ⟨gx, ox, none⟩) (mx + 1) cx] 45)) => kb_call (fun w2 hb => HKA.out w2 (r1.trans (hb.mono r1.size))) q)
  haveI hne : Nonempty (KB (w1.alloc (.cells #[.slice (some ⟨gx, ox, none⟩) (mx + 1) cx] 45))) := ⟨⟨_, Below.refl _ _⟩⟩
  have fa : ∀ q : KB (w1.alloc (.cells #[.slice (some ⟨gx, ox, none⟩) (mx + 1) cx] 45)), q.w.cell? ⟨w1.heap.size, 0, none⟩ = some (.slice (some ⟨gx, ox, none⟩) (mx + 1) cx) := fun q => (q.below.cell (p := ⟨w1.heap.size, 0, none⟩) (by simp)).trans c1
  have HQ := hide (fun q : KB (w1.alloc (.cells #[.slice (some ⟨gx, ox, none⟩) (mx + 1) cx] 45)) => O1.out.B.trans (q.below.mono O1.out.B.size))
  clear HLA HKA hE HM
  cases hk : decide (x.kind = 4)
  · have hk1 : (x.kind == 4) = false := by simpa using hk
    go_wp2_with fail
    refine region_class (KB.w (w := (w1.alloc (.cells #[.slice (some ⟨gx, ox, none⟩) (mx + 1) cx] 45)))) (by kernel_rfl) (by kernel_rfl) ⟨⟨_, (Below.refl _ _).drew⟩, rfl⟩ ?_
    repeat (go_big_quiet_step (first
      | (go_at_call 35; exact HL2.out _)
      | (go_at_call 33; exact HK2.out _)))
    refine wpQuiet_nil ?_
    rintro _ ⟨q, rfl⟩
    go_wp2
    refine bodyPost_ret (v := .tuple #[.string x.text, .bool false]) (by simp [results, Tryz.results36, go_sem]) rfl ?_
    exact ⟨by rw [hk]; simp, HQ.out q⟩
  · have hk1 : (x.kind == 4) = true := by simpa using hk
    cases need
    · skip
      go_wp2_with fail
      refine region_class (KB.w (w := (w1.alloc (.cells #[.slice (some ⟨gx, ox, none⟩) (mx + 1) cx] 45)))) (by kernel_rfl) (by kernel_rfl) ⟨⟨_, (Below.refl _ _).drew⟩, rfl⟩ ?_
      repeat (go_big_quiet_step (first
        | (go_at_call 35; exact HL2.out _)
        | (go_at_call 33; exact HK2.out _)))
      refine wpQuiet_nil ?_
      rintro _ ⟨q, rfl⟩
      go_wp2
      refine bodyPost_ret (v := .tuple #[.string x.text, .bool true]) (by simp [results, Tryz.results36, go_sem]) rfl ?_
      exact ⟨by rw [hk]; simp, HQ.out q⟩
    · cases he : decide (x.text = (⟨#[]⟩ : ByteArray))
      · rw [he] at hbe
        have hbn : (x.text.toList != (⟨#[]⟩ : ByteArray).toList) = true := by rw [bne, hbe]; rfl
        have hnil : ¬ x.text.toList = [] := by have h := hbe; rw [Lib.toList_data ⟨#[]⟩] at h; simpa using h
        go_wp2_with fail
        refine region_class (KB.w (w := (w1.alloc (.cells #[.slice (some ⟨gx, ox, none⟩) (mx + 1) cx] 45)))) (by kernel_rfl) (by kernel_rfl) ⟨⟨_, (Below.refl _ _).drew⟩, rfl⟩ ?_
        repeat (go_big_quiet_step (first
          | (go_at_call 35; exact HL2.out _)
          | (go_at_call 33; exact HK2.out _)))
        refine wpQuiet_nil ?_
        rintro _ ⟨q, rfl⟩
        go_wp2
        refine bodyPost_ret (v := .tuple #[.string x.text, .bool true]) (by simp [results, Tryz.results36, go_sem, hnil]) rfl ?_
        exact ⟨by rw [hk, he]; simp, HQ.out q⟩
      · rw [he] at hbe
        have hbn : (x.text.toList != (⟨#[]⟩ : ByteArray).toList) = false := by rw [bne, hbe]; rfl
        have hnil : x.text.toList = [] := by have h := hbe; rw [Lib.toList_data ⟨#[]⟩] at h; simpa using h
        go_wp2_with fail
        refine region_class (KB.w (w := (w1.alloc (.cells #[.slice (some ⟨gx, ox, none⟩) (mx + 1) cx] 45)))) (by kernel_rfl) (by kernel_rfl) ⟨⟨_, (Below.refl _ _).drew⟩, rfl⟩ ?_
        repeat (go_big_quiet_step (first
          | (go_at_call 35; exact HL2.out _)
          | (go_at_call 33; exact HK2.out _)))
        refine wpQuiet_nil ?_
        rintro _ ⟨q, rfl⟩
        go_wp2
        refine bodyPost_ret (v := .tuple #[.string x.text, .bool false]) (by simp [results, Tryz.results36, go_sem]) rfl ?_
        exact ⟨by rw [hk, he]; simp, HQ.out q⟩
theorem text9_any (t : T) (s : ByteArray) (need : Bool) (g o c m : Nat) (w : World) (hm : t.count = m + 1) (h1 : m < 1000) (hc : m + 1 ≤ c) (ht : AtomsO w g o t.atoms) :
    Calls Tryz.prog 36 #[.agg #[.slice (some ⟨g, o, none⟩) (m + 1) c], .string s, .bool need] w fun e w' => e = .returned (.tuple #[.string (text9 t.ks s need).1, .bool (text9 t.ks s need).2]) ∧ Below w.heap.size w w' := by
  unfold text9
  cases hga : getAt t.ks s with
  | none => exact text9_none t s need g o c m w hm h1 hc ht hga
  | some i =>
    have hi : i + 1 < t.ks.length := getAt_lt hga
    simp only [List.getElem?_eq_getElem hi]
    exact text9_some t _ i s need g o c m w hm h1 hc ht hga (List.getElem?_eq_getElem hi)
end Go.Proofs.YtmpjdooepdicoaaGreatDoor.Vl
