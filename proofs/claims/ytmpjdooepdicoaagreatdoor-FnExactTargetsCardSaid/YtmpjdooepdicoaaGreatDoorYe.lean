/- Targets, the specification's side: a text twice, texts in order. -/
import Derived.Test.YtmpjdooepdicoaaGreatDoorYd
namespace Go.Proofs.YtmpjdooepdicoaaGreatDoor.Vl
open Go.RowKit T.atoms T.ok T.high T.good T.allPlain

def twice (l : List ByteArray) : Bool := (List.range l.length).any fun i => (l[i]?.map fun x => memS x (l.take i)).getD false
theorem twice_yes {l : List ByteArray} {i : Nat} (h : i < l.length) (hm : memS l[i] (l.take i) = true) : twice l = true := by
  unfold twice
  rw [List.any_eq_true]
  exact ⟨i, List.mem_range.2 h, by simp [List.getElem?_eq_getElem h, hm]⟩
theorem twice_no {l : List ByteArray} (h : ∀ i (h : i < l.length), memS l[i] (l.take i) = false) : twice l = false := by
  unfold twice
  rw [List.any_eq_false]
  intro i hi
  have hi := List.mem_range.1 hi
  simp [List.getElem?_eq_getElem hi, h i hi]
theorem StrsO.take {w : World} {g o i : Nat} {l : List ByteArray} (h : StrsO w g o l) : StrsO w g o (l.take i) :=
  ⟨h.1, fun j hj => by rw [List.getElem_take]; exact h.2 j (by rw [List.length_take] at hj; omega)⟩

set_option maxRecDepth 100000 in
set_option maxHeartbeats 1000000 in
theorem twice9_some (l : List ByteArray) (g o c : Nat) (w : World) (hl : l.length ≤ 1099511627776) (hlc : l.length ≤ c) (hc : StrsO w g o l) (r : Bool) (hr : r = twice l) :
    Calls Tryz.prog 17 #[.slice (some ⟨g, o, none⟩) l.length c] w fun e w' => e = .returned (.bool r) ∧ Below w.heap.size w w' := by
  have HR := hide hr
  have HC := hide hc
  clear hr hc
  go_enter Tryz.func17, Tryz.ntmps17
  go_wp2
  go_loopw [3] (fun q wr => ∃ i : Nat, i ≤ l.length ∧ q = .int .i64 i ∧ Below w.heap.size w wr ∧ ∀ j (h : j < l.length), j < i → memS l[j] (l.take j) = false) (fun q _ => l.length - (intOf q).toNat)
  case atStart => exact ⟨0, Nat.zero_le _, rfl, Below.refl _ _, fun j _ h => absurd h (Nat.not_lt_zero _)⟩
  case round =>
    obtain ⟨i, hi, rfl, hB, hno⟩ := hrel
    have HNO := hide hno
    clear hno
    by_cases hlt : i < l.length
    · have hlen : (l.take i).length = i := by rw [List.length_take]; omega
      have HH := hide (fun w1 (hb : Below wr.heap.size wr w1) => (has1_some (l.take i) l[i] g o c w1 (by omega) ((HC.out.below hB).below hb).take).mono (fun _ w2 (h : _ ∧ w2 = w1) => And.intro h.1 (show Below w1.heap.size w1 w2 by rw [h.2]; exact Below.refl _ _)))
      rw [hlen] at HH
      have hcc := (HC.out.below hB).2 i hlt
      have hgz := (HC.out.below hB).1
      have HH2 := hide (fun q : KB wr => kb_call HH.out q)
      haveI hne : Nonempty (KB wr) := ⟨⟨_, Below.refl _ _⟩⟩
      have fa : ∀ q : KB wr, q.w.cell? ⟨g, o + i, none⟩ = some (.string l[i]) := fun q => (q.below.cell (p := ⟨g, o + i, none⟩) hgz).trans hcc
      have HY : Hid (memS l[i] (l.take i) = true → twice l = true) := hide (twice_yes hlt)
      have HN : Hid (memS l[i] (l.take i) = false → ∀ j (h : j < l.length), j < i + 1 → memS l[j] (l.take j) = false) := hide (fun hg j h hj => by
        by_cases e : j = i
        · subst e; exact hg
        · exact HNO.out j h (by omega))
      have HBB := hide hB
      clear hB
      cases hq : memS l[i] (l.take i)
      · rw [hq] at HH2
        go_wp2_with fail
        refine region_class (KB.w (w := wr)) (by kernel_rfl) (by kernel_rfl) ⟨⟨_, (Below.refl _ _).drew⟩, rfl⟩ ?_
        repeat (go_big_quiet_step ((go_at_call 16; exact HH2.out _)))
        refine wpQuiet_nil ?_
        rintro _ ⟨q, rfl⟩
        have hq1 := hide (HBB.out.trans (q.below.mono HBB.out.size))
        go_wp2
        go_roundw
        case rel => exact ⟨i + 1, by omega, by go_num, hq1.out, HN.out hq⟩
        case measure => simp [intOf]; omega
      · rw [hq] at HH2
        go_wp2_with fail
        refine region_class (KB.w (w := wr)) (by kernel_rfl) (by kernel_rfl) ⟨⟨_, (Below.refl _ _).drew⟩, rfl⟩ ?_
        repeat (go_big_quiet_step ((go_at_call 16; exact HH2.out _)))
        refine wpQuiet_nil ?_
        rintro _ ⟨q, rfl⟩
        have hq1 := hide (HBB.out.trans (q.below.mono HBB.out.size))
        go_wp2
        go_ret
        exact ⟨ret_bool (by rw [HR.out, HY.out hq]), hq1.out⟩
    · go_wp2
      go_ret
      exact ⟨ret_bool (by rw [HR.out, twice_no (fun j h => HNO.out j h (by omega))]), hB⟩

/-- A text put among texts in order. -/
def geS (x s : ByteArray) : Bool := !Go.Op.bytesLess x.toList s.toList
def putGo (s : ByteArray) : List ByteArray → Bool → List ByteArray
  | [], d => if d then [] else [s]
  | x :: r, d => (if !d && geS x s then [s] else []) ++ ((if x = s then [] else [x]) ++ putGo s r (d || geS x s))
def putS (s : ByteArray) (l : List ByteArray) : List ByteArray := putGo s l false
def sortS (l : List ByteArray) : List ByteArray := l.foldl (fun a s => putS s a) []
theorem putGo_len (s : ByteArray) : ∀ (l : List ByteArray) (d : Bool), (putGo s l d).length ≤ l.length + (if d then 0 else 1)
  | [], d => by cases d <;> simp [putGo]
  | x :: r, d => by
    have h := putGo_len s r (d || geS x s)
    rw [putGo]
    cases hg : geS x s <;> rw [hg] at h <;> cases d <;> by_cases hx : x = s <;> simp [hx] at h ⊢ <;> omega
theorem putS_len (s : ByteArray) (l : List ByteArray) : (putS s l).length ≤ l.length + 1 := putGo_len s l false
theorem geS_op (x s : ByteArray) : geS x s = geS x s := rfl
end Go.Proofs.YtmpjdooepdicoaaGreatDoor.Vl
