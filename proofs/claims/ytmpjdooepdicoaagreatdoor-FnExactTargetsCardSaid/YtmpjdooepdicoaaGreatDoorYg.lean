/- Targets, the specification's side: texts sorted. -/
import Derived.Test.YtmpjdooepdicoaaGreatDoorYf
namespace Go.Proofs.YtmpjdooepdicoaaGreatDoor.Vl
open Go.RowKit T.atoms T.ok T.high T.good T.allPlain

theorem sortS_succ (l : List ByteArray) (i : Nat) (h : i < l.length) : sortS (l.take (i + 1)) = putS l[i] (sortS (l.take i)) := by
  unfold sortS
  rw [List.take_succ_eq_append_getElem h, List.foldl_append]; rfl
theorem sortS_len (l : List ByteArray) : (sortS l).length ≤ l.length := by
  have h : ∀ (l a : List ByteArray), (l.foldl (fun a s => putS s a) a).length ≤ a.length + l.length := by
    intro l
    induction l with
    | nil => intro a; simp
    | cons x r ih =>
      intro a
      have h1 := ih (putS x a)
      have h2 := putS_len x a
      simp only [List.foldl_cons, List.length_cons]
      omega
  have := h l []
  simpa [sortS] using this
/-- A row of texts of one's own, read. -/
theorem strsV_of_row {w : World} {base : Nat} {e : TypeId} {p : Option Addr} {cap : Nat} {l : List ByteArray} (h : w.ownsRow base e 1 (.slice p l.length cap) l.length (cellsT l)) : StrsV w (.slice p l.length cap) l :=
  (strsH_of_row (B := 0) rfl (Nat.zero_le _) h).any

set_option maxRecDepth 100000 in
set_option maxHeartbeats 1000000 in
theorem twice9_none (p : Option Addr) (c : Nat) (w : World) :
    Calls Tryz.prog 17 #[.slice p 0 c] w fun e w' => e = .returned (.bool false) ∧ Below w.heap.size w w' := by
  go_enter Tryz.func17, Tryz.ntmps17
  go_wp2
  go_loopw [3] (fun u wr => u = .int .i64 0 ∧ wr = w) (fun _ _ => 0)
  case atStart => exact ⟨rfl, rfl⟩
  case round =>
    obtain ⟨rfl, rfl⟩ := hrel
    go_wp2
    go_ret
    exact ⟨rfl, Below.refl _ _⟩
theorem StrsC.any {w : World} {v : Value} {l : List ByteArray} (h : StrsC w v l) : StrsV w v l := by
  rcases h with h | ⟨g, o, c, h1, _, h2⟩
  · exact .inl h
  · exact .inr ⟨g, o, c, h1, h2⟩
theorem StrsC.below {w w' : World} {v : Value} {l : List ByteArray} (h : StrsC w v l) (hb : Below w.heap.size w w') : StrsC w' v l := by
  rcases h with h | ⟨g, o, c, h1, h2, h3⟩
  · exact .inl h
  · exact .inr ⟨g, o, c, h1, h2, h3.below hb⟩
theorem twice9_any (l : List ByteArray) (v : Value) (w : World) (hl : l.length ≤ 1099511627776) (hv : StrsC w v l) :
    Calls Tryz.prog 17 #[v] w fun e w' => e = .returned (.bool (twice l)) ∧ Below w.heap.size w w' := by
  rcases hv with ⟨p, c, rfl, rfl⟩ | ⟨g, o, c, rfl, h1, h⟩
  · exact twice9_none p c w
  · exact twice9_some l g o c w hl h1 h _ rfl

set_option maxRecDepth 100000 in
set_option maxHeartbeats 1000000 in
theorem sort9_some (l : List ByteArray) (g o c : Nat) (w : World) (hl : l.length ≤ 1099511627775) (hc : StrsO w g o l) :
    Calls Tryz.prog 18 #[.slice (some ⟨g, o, none⟩) l.length c] w fun e w' => Below w.heap.size w w' ∧ ∃ p cc, e = .returned (.slice p (sortS l).length cc) ∧ w'.ownsRow w.heap.size 9 1 (.slice p (sortS l).length cc) (sortS l).length (cellsT (sortS l)) := by
  have HC := hide hc
  clear hc
  have R0 := hide (World.ownsRow_lit (base := w.heap.size) (e := 9) (size := 1) w #[] 0 (Nat.le_refl _) (Nat.zero_le _) rfl)
  have B0 : Below w.heap.size w (w.alloc (.cells #[] 9)) := (Below.refl _ _).alloc (Nat.le_refl _) _
  go_enter Tryz.func18, Tryz.ntmps18
  go_wp2
  go_loopw [3, 4] (fun u q wr => ∃ (i : Nat) (p : Option Addr) (cc : Nat), i ≤ l.length ∧ u = .slice p (sortS (l.take i)).length cc ∧ q = .int .i64 i ∧ wr.ownsRow w.heap.size 9 1 (.slice p (sortS (l.take i)).length cc) (sortS (l.take i)).length (cellsT (sortS (l.take i))) ∧ Below w.heap.size w wr) (fun _ q _ => l.length - (intOf q).toNat)
  case atStart => exact ⟨0, _, _, Nat.zero_le _, rfl, rfl, R0.out, B0⟩
  case round =>
    obtain ⟨i, p, cc, hi, rfl, rfl, hrow, hB⟩ := hrel
    have HR := hide hrow
    have HB := hide hB
    have hzr := hB.size
    have hx0 := fun (h : i < l.length) => (hB.cell (p := ⟨g, o + i, none⟩) HC.out.1).trans (HC.out.2 i h)
    clear hrow hB
    by_cases hlt : i < l.length
    · have hx := hx0 hlt
      have hsl := sortS_len (l.take i)
      rw [List.length_take] at hsl
      have HS := hide (sortS_succ l i hlt)
      have HP := hide (put7_any (sortS (l.take i)) l[i] (.slice p (sortS (l.take i)).length cc) wr (by omega) (strsV_of_row HR.out))
      clear hx0
      generalize l[i] = x at *
      go_wp2_with fail
      refine HP.out.mono ?_
      rintro e w1 ⟨hb1, p1, c1, rfl, ho1⟩
      have HR1 := hide (row_mono ho1 hzr)
      have HB1 := hide (HB.out.trans (hb1.mono hzr))
      rw [← HS.out] at HR1
      clear ho1 hb1
      rw [← HS.out]
      go_wp2
      go_roundw
      case rel => exact ⟨i + 1, p1, c1, by omega, rfl, by go_num, HR1.out, HB1.out⟩
      case measure => simp [intOf]; omega
    · clear hx0
      go_wp2
      go_ret
      obtain rfl : i = l.length := by omega
      have h := HR.out
      rw [List.take_length] at h
      refine ⟨HB.out, p, cc, ?_, h⟩
      rw [List.take_length]
      rfl
set_option maxRecDepth 100000 in
set_option maxHeartbeats 1000000 in
theorem sort9_none (p0 : Option Addr) (c0 : Nat) (w : World) :
    Calls Tryz.prog 18 #[.slice p0 0 c0] w fun e w' => Below w.heap.size w w' ∧ ∃ p cc, e = .returned (.slice p (sortS []).length cc) ∧ w'.ownsRow w.heap.size 9 1 (.slice p (sortS []).length cc) (sortS []).length (cellsT (sortS [])) := by
  have R0 := hide (World.ownsRow_lit (base := w.heap.size) (e := 9) (size := 1) w #[] 0 (Nat.le_refl _) (Nat.zero_le _) rfl)
  have B0 : Below w.heap.size w (w.alloc (.cells #[] 9)) := (Below.refl _ _).alloc (Nat.le_refl _) _
  go_enter Tryz.func18, Tryz.ntmps18
  go_wp2
  go_loopw [3, 4] (fun u q wr => u = .slice (some ⟨w.heap.size, 0, none⟩) 0 0 ∧ q = .int .i64 0 ∧ wr = w.alloc (.cells #[] 9)) (fun _ _ _ => 0)
  case atStart => exact ⟨rfl, rfl, rfl⟩
  case round =>
    obtain ⟨rfl, rfl, rfl⟩ := hrel
    go_wp2
    go_ret
    exact ⟨B0, _, _, rfl, R0.out⟩
theorem sort9_any (l : List ByteArray) (v : Value) (w : World) (hl : l.length ≤ 1099511627775) (hv : StrsV w v l) :
    Calls Tryz.prog 18 #[v] w fun e w' => Below w.heap.size w w' ∧ ∃ p cc, e = .returned (.slice p (sortS l).length cc) ∧ w'.ownsRow w.heap.size 9 1 (.slice p (sortS l).length cc) (sortS l).length (cellsT (sortS l)) := by
  rcases hv with ⟨p, c, rfl, rfl⟩ | ⟨g, o, c, rfl, h⟩
  · exact sort9_none p c w
  · exact sort9_some l g o c w hl h
end Go.Proofs.YtmpjdooepdicoaaGreatDoor.Vl
