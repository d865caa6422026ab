/- Hl, Hq, Ia. -/
import Derived.Test.YtfjoecbkagedbaaGreatDoorY26
import Derived.Test.YtfjoecbkagedbaaGreatDoorY15
import Derived.Test.YtfjoecbkagedbaaGreatDoorY25
import Derived.Test.YtfjoecbkagedbaaGreatDoorY27
import Derived.Test.YtfjoecbkagedbaaGreatDoorY29
import Derived.Test.YtfjoecbkagedbaaGreatDoorY30
import Derived.Test.YtfjoecbkagedbaaGreatDoorY31
import Derived.Test.YtfjoecbkagedbaaGreatDoorY01
namespace Go.Proofs.YtfjoecbkagedbaaGreatDoor
open Go.RowKit
theorem DK.tokNext {b tg tc : Nat} {ts : List Sc.T} {sz : Nat} {v : Value} {s : Pr.Dk} {w : World} (h : DK b tg tc ts sz v s w) (hp : s.p + 1 < ts.length) : w.cell? ⟨tg, (s.p + 1) * 4, none⟩ = some (.int .i64 (Pr.tok ts sz (Pr.adv s)).kind) ∧ w.cell? ⟨tg, (s.p + 1) * 4 + 1, none⟩ = some (.string ⟨(Pr.tok ts sz (Pr.adv s)).text.toArray⟩) := by
  have e : Pr.tok ts sz (Pr.adv s) = ts[s.p + 1] := by unfold Pr.tok; rw [Pr.adv_p, List.getElem?_eq_getElem hp]; rfl
  rw [e]; exact ⟨(h.ks _ hp).1, (h.ks _ hp).2.1⟩
def NmPost (w : World) (r : Bool) (e : Ending) (w' : World) : Prop := e = .returned (.bool r) ∧ Below w.heap.size w w'
set_option maxRecDepth 100000 in
set_option maxHeartbeats 2000000 in
theorem named_4 {b tg tc : Nat} {ts : List Sc.T} {sz : Nat} {v : Value} {s : Pr.Dk} {w : World} (h : DK b tg tc ts sz v s w) (hk : ((Pr.tok ts sz s).kind : Int) = 1) (hp : s.p + 1 < ts.length) (hk5 : ((Pr.tok ts sz (Pr.adv s)).kind : Int) = 5) :
    Calls Tryz.prog 106 #[.pointer (some ⟨b, 0, none⟩)] w (NmPost w ((Pr.tok ts sz (Pr.adv s)).text == [61])) := by
  haveI hne : Nonempty (KB w) := ⟨⟨_, Below.refl _ _⟩⟩
  have hm := h.most
  have hle := h.le
  have hz01 : (0 : Int) ≤ (s.p : Int) + 1 := by omega
  have hpi : (s.p : Int) + 1 < ts.length := by omega
  have HT : Hid (∀ w1, Below w.heap.size w w1 → Calls Tryz.prog 28 #[.pointer (some ⟨b, 0, none⟩)] w1 fun e w' => e = .returned (.agg #[.int .i64 1, .string ⟨(Pr.tok ts sz s).text.toArray⟩, .int .i64 (Pr.tok ts sz s).n, .int .i64 (Pr.tok ts sz s).place]) ∧ Below w1.heap.size w1 w') := hide (fun w1 hb => by
    have := tok_any (h.below hb)
    unfold Pr.tokV at this
    rw [hk] at this; exact this)
  have hf0 := tokField0 1 (Pr.tok ts sz s).n (Pr.tok ts sz s).place ⟨(Pr.tok ts sz s).text.toArray⟩
  have d0 : ∀ q : KB w, q.w.cell? ⟨b, 0, none⟩ = some (.slice (some ⟨tg, 0, none⟩) ts.length tc) := fun q => (h.below q.below).c0
  have d2 : ∀ q : KB w, q.w.cell? ⟨b, 2, none⟩ = some (.int .i64 s.p) := fun q => (h.below q.below).c2
  have x0 : ∀ q : KB w, q.w.cell? ⟨tg, (s.p + 1) * 4, none⟩ = some (.int .i64 5) := fun q => by have := ((h.below q.below).tokNext (sz := sz) hp).1; rw [hk5] at this; exact this
  have x1 : ∀ q : KB w, q.w.cell? ⟨tg, (s.p + 1) * 4 + 1, none⟩ = some (.string ⟨(Pr.tok ts sz (Pr.adv s)).text.toArray⟩) := fun q => ((h.below q.below).tokNext (sz := sz) hp).2
  clear h
  go_enter Tryz.func106, Tryz.ntmps106
  go_wp2_with fail
  refine region_class (KB.w (w := w)) (by kernel_rfl) (by kernel_rfl) ⟨⟨_, below_drewN (Below.refl _ _) _⟩, rfl⟩ ?_
  repeat (go_big_quiet_step ((go_at_call 28; exact kb_call HT.out _)))
  refine wpQuiet_nil ?_
  rintro _ ⟨q, rfl⟩
  have hBq := q.below
  go_wp2
  go_ret
  refine ⟨?_, hBq⟩
  first | rfl | simp [Lib.toList_data]
set_option maxRecDepth 100000 in
set_option maxHeartbeats 2000000 in
theorem named_3 {b tg tc : Nat} {ts : List Sc.T} {sz : Nat} {v : Value} {s : Pr.Dk} {w : World} (h : DK b tg tc ts sz v s w) (hk : ((Pr.tok ts sz s).kind : Int) = 1) (hp : s.p + 1 < ts.length) (hk5 : ¬ ((Pr.tok ts sz (Pr.adv s)).kind : Int) = 5) :
    Calls Tryz.prog 106 #[.pointer (some ⟨b, 0, none⟩)] w (NmPost w false) := by
  haveI hne : Nonempty (KB w) := ⟨⟨_, Below.refl _ _⟩⟩
  have hm := h.most
  have hle := h.le
  have hk5d : decide (((Pr.tok ts sz (Pr.adv s)).kind : Int) = 5) = false := by simpa using hk5
  have hk5b : (((Pr.tok ts sz (Pr.adv s)).kind : Int) == 5) = false := by simpa using hk5
  have hz01 : (0 : Int) ≤ (s.p : Int) + 1 := by omega
  have hpi : (s.p : Int) + 1 < ts.length := by omega
  have HT : Hid (∀ w1, Below w.heap.size w w1 → Calls Tryz.prog 28 #[.pointer (some ⟨b, 0, none⟩)] w1 fun e w' => e = .returned (.agg #[.int .i64 1, .string ⟨(Pr.tok ts sz s).text.toArray⟩, .int .i64 (Pr.tok ts sz s).n, .int .i64 (Pr.tok ts sz s).place]) ∧ Below w1.heap.size w1 w') := hide (fun w1 hb => by
    have := tok_any (h.below hb)
    unfold Pr.tokV at this
    rw [hk] at this; exact this)
  have hf0 := tokField0 1 (Pr.tok ts sz s).n (Pr.tok ts sz s).place ⟨(Pr.tok ts sz s).text.toArray⟩
  have d0 : ∀ q : KB w, q.w.cell? ⟨b, 0, none⟩ = some (.slice (some ⟨tg, 0, none⟩) ts.length tc) := fun q => (h.below q.below).c0
  have d2 : ∀ q : KB w, q.w.cell? ⟨b, 2, none⟩ = some (.int .i64 s.p) := fun q => (h.below q.below).c2
  have x0 : ∀ q : KB w, q.w.cell? ⟨tg, (s.p + 1) * 4, none⟩ = some (.int .i64 ((Pr.tok ts sz (Pr.adv s)).kind : Nat)) := fun q => by have := ((h.below q.below).tokNext (sz := sz) hp).1; exact this
  have x1 : ∀ q : KB w, q.w.cell? ⟨tg, (s.p + 1) * 4 + 1, none⟩ = some (.string ⟨(Pr.tok ts sz (Pr.adv s)).text.toArray⟩) := fun q => ((h.below q.below).tokNext (sz := sz) hp).2
  clear h
  go_enter Tryz.func106, Tryz.ntmps106
  go_wp2_with fail
  refine region_class (KB.w (w := w)) (by kernel_rfl) (by kernel_rfl) ⟨⟨_, below_drewN (Below.refl _ _) _⟩, rfl⟩ ?_
  repeat (go_big_quiet_step ((go_at_call 28; exact kb_call HT.out _)))
  refine wpQuiet_nil ?_
  rintro _ ⟨q, rfl⟩
  have hBq := q.below
  go_wp2
  go_ret
  refine ⟨?_, hBq⟩
  first | rfl | simp [Lib.toList_data]
set_option maxRecDepth 100000 in
set_option maxHeartbeats 2000000 in
theorem named_2 {b tg tc : Nat} {ts : List Sc.T} {sz : Nat} {v : Value} {s : Pr.Dk} {w : World} (h : DK b tg tc ts sz v s w) (hk : ((Pr.tok ts sz s).kind : Int) = 1) (hp : ¬ s.p + 1 < ts.length) :
    Calls Tryz.prog 106 #[.pointer (some ⟨b, 0, none⟩)] w (NmPost w false) := by
  haveI hne : Nonempty (KB w) := ⟨⟨_, Below.refl _ _⟩⟩
  have hm := h.most
  have hle := h.le
  have hpi : ¬ (s.p : Int) + 1 < ts.length := by omega
  have hpd : decide ((s.p : Int) + 1 < ts.length) = false := by simpa using hpi
  have HT : Hid (∀ w1, Below w.heap.size w w1 → Calls Tryz.prog 28 #[.pointer (some ⟨b, 0, none⟩)] w1 fun e w' => e = .returned (.agg #[.int .i64 1, .string ⟨(Pr.tok ts sz s).text.toArray⟩, .int .i64 (Pr.tok ts sz s).n, .int .i64 (Pr.tok ts sz s).place]) ∧ Below w1.heap.size w1 w') := hide (fun w1 hb => by
    have := tok_any (h.below hb)
    unfold Pr.tokV at this
    rw [hk] at this; exact this)
  have hf0 := tokField0 1 (Pr.tok ts sz s).n (Pr.tok ts sz s).place ⟨(Pr.tok ts sz s).text.toArray⟩
  have d0 : ∀ q : KB w, q.w.cell? ⟨b, 0, none⟩ = some (.slice (some ⟨tg, 0, none⟩) ts.length tc) := fun q => (h.below q.below).c0
  have d2 : ∀ q : KB w, q.w.cell? ⟨b, 2, none⟩ = some (.int .i64 s.p) := fun q => (h.below q.below).c2
  clear h
  go_enter Tryz.func106, Tryz.ntmps106
  go_wp2_with fail
  refine region_class (KB.w (w := w)) (by kernel_rfl) (by kernel_rfl) ⟨⟨_, below_drewN (Below.refl _ _) _⟩, rfl⟩ ?_
  repeat (go_big_quiet_step ((go_at_call 28; exact kb_call HT.out _)))
  refine wpQuiet_nil ?_
  rintro _ ⟨q, rfl⟩
  have hBq := q.below
  go_wp2
  go_ret
  refine ⟨?_, hBq⟩
  first | rfl | simp [Lib.toList_data]
set_option maxRecDepth 100000 in
set_option maxHeartbeats 2000000 in
theorem named_1 {b tg tc : Nat} {ts : List Sc.T} {sz : Nat} {v : Value} {s : Pr.Dk} {w : World} (h : DK b tg tc ts sz v s w) (hk : ¬ ((Pr.tok ts sz s).kind : Int) = 1) :
    Calls Tryz.prog 106 #[.pointer (some ⟨b, 0, none⟩)] w (NmPost w false) := by
  haveI hne : Nonempty (KB w) := ⟨⟨_, Below.refl _ _⟩⟩
  have hm := h.most
  have hle := h.le
  have hkd : decide (((Pr.tok ts sz s).kind : Int) = 1) = false := by simpa using hk
  have hkb : (((Pr.tok ts sz s).kind : Int) == 1) = false := by simpa using hk
  have HT : Hid (∀ w1, Below w.heap.size w w1 → Calls Tryz.prog 28 #[.pointer (some ⟨b, 0, none⟩)] w1 fun e w' => e = .returned (.agg #[.int .i64 ((Pr.tok ts sz s).kind : Nat), .string ⟨(Pr.tok ts sz s).text.toArray⟩, .int .i64 (Pr.tok ts sz s).n, .int .i64 (Pr.tok ts sz s).place]) ∧ Below w1.heap.size w1 w') := hide (fun w1 hb => by
    have := tok_any (h.below hb)
    unfold Pr.tokV at this
    exact this)
  have hf0 := tokField0 ((Pr.tok ts sz s).kind : Nat) (Pr.tok ts sz s).n (Pr.tok ts sz s).place ⟨(Pr.tok ts sz s).text.toArray⟩
  clear h
  go_enter Tryz.func106, Tryz.ntmps106
  go_wp2_with fail
  refine region_class (KB.w (w := w)) (by kernel_rfl) (by kernel_rfl) ⟨⟨_, below_drewN (Below.refl _ _) _⟩, rfl⟩ ?_
  repeat (go_big_quiet_step ((go_at_call 28; exact kb_call HT.out _)))
  refine wpQuiet_nil ?_
  rintro _ ⟨q, rfl⟩
  have hBq := q.below
  go_wp2
  go_ret
  refine ⟨?_, hBq⟩
  first | rfl | simp [Lib.toList_data]
theorem named_any {b tg tc : Nat} {ts : List Sc.T} {sz : Nat} {v : Value} {s : Pr.Dk} {w : World} (h : DK b tg tc ts sz v s w) :
    Calls Tryz.prog 106 #[.pointer (some ⟨b, 0, none⟩)] w (NmPost w (Pr.named ts sz s)) := by
  by_cases k1 : (Pr.tok ts sz s).kind = 1
  · by_cases hp : s.p + 1 < ts.length
    · by_cases k5 : (Pr.tok ts sz (Pr.adv s)).kind = 5
      · have e : Pr.named ts sz s = ((Pr.tok ts sz (Pr.adv s)).text == [61]) := by unfold Pr.named; simp [k1, hp, k5]
        rw [e]; exact named_4 h (by omega) hp (by omega)
      · have e : Pr.named ts sz s = false := by unfold Pr.named; simp [k5]
        rw [e]; exact named_3 h (by omega) hp (by omega)
    · have e : Pr.named ts sz s = false := by unfold Pr.named; simp [hp]
      rw [e]; exact named_2 h (by omega) hp
  · have e : Pr.named ts sz s = false := by unfold Pr.named; simp [k1]
    rw [e]; exact named_1 h (by omega)
end Go.Proofs.YtfjoecbkagedbaaGreatDoor
namespace Go.Proofs.YtfjoecbkagedbaaGreatDoor
open Go.RowKit
theorem Pr.SOi.cast {b tg tc : Nat} {ts : List Sc.T} {sz : Nat} {i j : Int} {r : Nat} {s : Pr.Dk} (h : Pr.SOi b tg tc ts sz i r s) (e : i = j) : Pr.SOi b tg tc ts sz j r s := e ▸ h
/-- What list is told by, once e is told of from here on. -/
def Pr.ListSays (b tg tc : Nat) (ts : List Sc.T) (sz : Nat) : Prop := ∀ s : Pr.Dk, (∀ q : Pr.Dk, s.p ≤ q.p → q.p ≤ ts.length → Pr.SE b tg tc ts sz q) → Pr.SL b tg tc ts sz s
def Pr.All (b tg tc : Nat) (ts : List Sc.T) (sz : Nat) (s : Pr.Dk) : Prop := Pr.SE b tg tc ts sz s ∧ ∀ r : Nat, 1 ≤ r → r ≤ 7 → Pr.SOi b tg tc ts sz r r s
theorem Pr.all_at {b tg tc : Nat} {ts : List Sc.T} {sz : Nat} (hnm : Pr.Named b tg tc ts sz) (hls : Pr.ListSays b tg tc ts sz) (s : Pr.Dk) (ih : ∀ q : Pr.Dk, s.p < q.p → q.p ≤ ts.length → Pr.All b tg tc ts sz q) : Pr.All b tg tc ts sz s := by
  have iE : ∀ q : Pr.Dk, s.p < q.p → q.p ≤ ts.length → Pr.SE b tg tc ts sz q := fun q h k => (ih q h k).1
  have iP : ∀ q : Pr.Dk, s.p < q.p → q.p ≤ ts.length → Pr.SP b tg tc ts sz q := fun q h _ => params_says fun q' h' k' => iE q' (Nat.lt_of_lt_of_le h h') k'
  have iA : ∀ q : Pr.Dk, s.p < q.p → q.p ≤ ts.length → Pr.SA b tg tc ts sz q := fun q h _ => args_says hnm fun q' h' k' => iE q' (Nat.lt_of_lt_of_le h h') k'
  have iR : ∀ q : Pr.Dk, s.p < q.p → q.p ≤ ts.length → Pr.SR b tg tc ts sz q := fun q h _ => record_says fun q' h' k' => iE q' (Nat.lt_of_lt_of_le h h') k'
  have iL : ∀ q : Pr.Dk, s.p < q.p → q.p ≤ ts.length → Pr.SL b tg tc ts sz q := fun q h _ => hls q fun q' h' k' => iE q' (Nat.lt_of_lt_of_le h h') k'
  have sI : Pr.SI b tg tc ts sz s := single_says iE iL iR
  have sT : Pr.ST b tg tc ts sz s := post_says sI iE iA
  have o : ∀ r : Nat, 1 ≤ r → r ≤ 7 → Pr.SOi b tg tc ts sz r r s := by
    cases hb : s.bad
    · have o7 : Pr.SOi b tg tc ts sz 7 7 s := ops_at7 hb (fun q h k => (ih q h k).2 7 (by omega) (by omega)) sT
      have st : ∀ r : Nat, 1 ≤ r → r ≤ 6 → r ≠ 3 → Pr.SOi b tg tc ts sz ((r + 1 : Nat) : Int) (r + 1) s → Pr.SOi b tg tc ts sz r r s := fun r h1 h6 h3 h =>
        ops_at r h6 h3 hb (fun q hq k => ((ih q hq k).2 (r + 1) (by omega) (by omega)).cast (by omega)) (h.cast (by omega))
      have o6 := st 6 (by omega) (by omega) (by omega) o7
      have o5 := st 5 (by omega) (by omega) (by omega) o6
      have o4 := st 4 (by omega) (by omega) (by omega) o5
      have o3 : Pr.SOi b tg tc ts sz 3 3 s := ops_at3 hb (fun q h k => (ih q h k).2 3 (by omega) (by omega)) o4
      have o2 := st 2 (by omega) (by omega) (by omega) o3
      have o1 := st 1 (by omega) (by omega) (by omega) o2
      intro r h1 h7
      have hc : r = 1 ∨ r = 2 ∨ r = 3 ∨ r = 4 ∨ r = 5 ∨ r = 6 ∨ r = 7 := by omega
      rcases hc with rfl | rfl | rfl | rfl | rfl | rfl | rfl
      · exact o1
      · exact o2
      · exact o3
      · exact o4
      · exact o5
      · exact o6
      · exact o7
    · exact fun r _ _ => ops_bad r hb
  exact ⟨e_says iE iP (o 1 (by omega) (by omega)), o⟩
theorem Pr.all_says {b tg tc : Nat} {ts : List Sc.T} {sz : Nat} (hnm : Pr.Named b tg tc ts sz) (hls : Pr.ListSays b tg tc ts sz) : ∀ (n : Nat) (s : Pr.Dk), s.p ≤ ts.length → ts.length - s.p ≤ n → Pr.All b tg tc ts sz s := by
  intro n
  induction n with
  | zero => intro s h hn; exact Pr.all_at hnm hls s fun q h1 h2 => by omega
  | succ n ih => intro s h hn; exact Pr.all_at hnm hls s fun q h1 h2 => ih q h2 (by omega)
/-- A statement, from any desk. -/
theorem Pr.statement_all {b tg tc : Nat} {ts : List Sc.T} {sz : Nat} (hnm : Pr.Named b tg tc ts sz) (hls : Pr.ListSays b tg tc ts sz) (s : Pr.Dk) : Pr.SS b tg tc ts sz s :=
  statement_says (fun q _ h => (Pr.all_says hnm hls _ q h (Nat.le_refl _)).1) (fun _ _ _ => params_says fun q' _ h' => (Pr.all_says hnm hls _ q' h' (Nat.le_refl _)).1)
theorem Pr.named_yes (b tg tc : Nat) (ts : List Sc.T) (sz : Nat) : Pr.Named b tg tc ts sz := fun _ _ _ h => named_any h
theorem Pr.list_yes (b tg tc : Nat) (ts : List Sc.T) (sz : Nat) : Pr.ListSays b tg tc ts sz := fun s ih => by
  cases h : Pr.is ts sz s [93]
  · exact list_says h ih
  · exact list_nil h
/-- A statement, from any desk: nothing is asked for. -/
theorem Pr.statement_any (b tg tc : Nat) (ts : List Sc.T) (sz : Nat) (s : Pr.Dk) : Pr.SS b tg tc ts sz s := Pr.statement_all (Pr.named_yes b tg tc ts sz) (Pr.list_yes b tg tc ts sz) s
end Go.Proofs.YtfjoecbkagedbaaGreatDoor
namespace Go.Proofs.YtfjoecbkagedbaaGreatDoor
open Go.RowKit
namespace Sc
theorem takeWhile_cons_pos {p : UInt8 → Bool} {b : UInt8} {r : List UInt8} (h : p b = true) : ((b :: r).takeWhile p).length = (r.takeWhile p).length + 1 := by simp [h]
theorem takeWhile_cons_neg {p : UInt8 → Bool} {b : UInt8} {r : List UInt8} (h : p b = false) : ((b :: r).takeWhile p).length = 0 := by simp [h]
theorem numVal_snoc (l : List UInt8) (b : UInt8) : numVal (l ++ [b]) = numVal l * 10 + (b.toNat - 48) := by simp [numVal]
theorem take_snoc (s : ByteArray) (k j : Nat) (hkj : k ≤ j) (h : j < s.size) : (s.data.toList.drop k).take (j + 1 - k) = (s.data.toList.drop k).take (j - k) ++ [s[j]] := by
  rw [show j + 1 - k = (j - k) + 1 from by omega, List.take_succ_eq_append_getElem (by simp; omega)]
  congr 2
  simp [show k + (j - k) = j from by omega]
  rfl
end Sc
set_option maxHeartbeats 400000 in
theorem hex_any (b : UInt8) (w : World) : Calls Tryz.prog 73 #[.int .u8 b.toNat] w fun e w' => e = .returned (.int .i64 (Sc.hexv b)) ∧ w' = w := by
  by_cases h1 : 48 ≤ (b.toNat : Int)
  all_goals by_cases h2 : (b.toNat : Int) ≤ 57
  all_goals by_cases h3 : 97 ≤ (b.toNat : Int)
  all_goals by_cases h4 : (b.toNat : Int) ≤ 102
  all_goals first | (exfalso; omega) | skip
  all_goals
    go_enter Tryz.func73, Tryz.ntmps73
    go_wp2
    go_ret
    exact ⟨ret_int (by unfold Sc.hexv; first | rw [if_pos (by omega)] | rw [if_neg (by omega), if_pos (by omega)] | rw [if_neg (by omega), if_neg (by omega)]), rfl⟩

set_option maxHeartbeats 1000000 in
theorem gap_any (s : ByteArray) (k : Nat) (a : Int) (w : World) (hs : s.size ≤ 1048576) (hk : k ≤ s.size) (ha : a = (k : Int)) :
    Calls Tryz.prog 21 #[.string s, .int .i64 a] w fun e w' => e = .returned (.int .i64 ((k + Sc.gapLen false (s.data.toList.drop k) : Nat) : Int)) ∧ w' = w := by
  subst ha
  go_enter Tryz.func21, Tryz.ntmps21
  go_wp2
  go_loop [1] (fun t => ∃ j : Nat, j ≤ s.size ∧ t = .int .i64 j ∧ j + Sc.gapLen false (s.data.toList.drop j) = k + Sc.gapLen false (s.data.toList.drop k)) (fun t => s.size - (intOf t).toNat)
  case atStart => exact ⟨k, hk, rfl, rfl⟩
  case round =>
    obtain ⟨j, hj, rfl, he⟩ := hrel
    have HE := hide he
    clear he
    by_cases hlt : j < s.size
    · have hd := hide (Sc.drop_cons s j hlt)
      cases h35 : ((s[j].toNat : Int) == 35)
      · cases h32 : ((s[j].toNat : Int) == 32)
        · cases h10 : ((s[j].toNat : Int) == 10)
          · go_wp2
            go_ret
            refine ⟨ret_int ?_, rfl⟩
            have e := HE.out
            rw [hd.out] at e
            simp at h35 h32 h10
            simp only [Sc.gapLen] at e
            rw [if_neg (by omega), if_neg (by omega)] at e
            omega
          · go_wp2
            go_round
            case rel =>
              refine ⟨j + 1, by omega, by go_num, ?_⟩
              have e := HE.out
              rw [hd.out] at e
              simp at h35 h32 h10
              simp only [Sc.gapLen] at e
              rw [if_neg (by omega), if_pos (by omega)] at e
              omega
            case measure => simp [intOf]; omega
        · go_wp2
          go_round
          case rel =>
            refine ⟨j + 1, by omega, by go_num, ?_⟩
            have e := HE.out
            rw [hd.out] at e
            simp at h35 h32
            simp only [Sc.gapLen] at e
            rw [if_neg (by omega), if_pos (by omega)] at e
            omega
          case measure => simp [intOf]; omega
      · go_wp2
        go_loop [1] (fun t => ∃ i : Nat, j ≤ i ∧ i ≤ s.size ∧ t = .int .i64 i ∧ i + Sc.gapLen true (s.data.toList.drop i) = k + Sc.gapLen false (s.data.toList.drop k)) (fun t => s.size - (intOf t).toNat)
        case atStart =>
          refine ⟨j, Nat.le_refl _, hj, rfl, ?_⟩
          have e := HE.out
          rw [hd.out] at e ⊢
          simp at h35
          simp only [Sc.gapLen] at e ⊢
          rw [if_pos (by omega)] at e
          rw [if_neg (by omega)]
          omega
        case round =>
          obtain ⟨i, hji, hi, rfl, hei⟩ := hrel
          have HI := hide hei
          clear hei
          by_cases hil : i < s.size
          · have hdi := hide (Sc.drop_cons s i hil)
            cases h10 : ((s[i].toNat : Int) == 10)
            · go_wp2
              go_round
              case rel =>
                refine ⟨i + 1, by omega, by omega, by go_num, ?_⟩
                have e := HI.out
                rw [hdi.out] at e
                simp at h10
                simp only [Sc.gapLen] at e
                rw [if_neg (by omega)] at e
                omega
              case measure => simp [intOf]; omega
            · have hne : i ≠ j := by rintro rfl; simp at h35 h10; omega
              go_wp2
              go_round
              case rel =>
                refine ⟨i, by omega, rfl, ?_⟩
                have e := HI.out
                rw [hdi.out] at e ⊢
                simp at h10
                simp only [Sc.gapLen] at e ⊢
                rw [if_pos (by omega)] at e
                rw [if_neg (by omega), if_pos (by omega)]
                omega
              case measure => simp [intOf]; omega
          · go_wp2
            go_round
            case rel =>
              refine ⟨i, by omega, rfl, ?_⟩
              have e := HI.out
              rw [List.drop_of_length_le (i := i) (by simp; omega)] at e ⊢
              simp only [Sc.gapLen] at e ⊢
              omega
            case measure => simp [intOf]; omega
    · go_wp2
      go_ret
      refine ⟨ret_int ?_, rfl⟩
      have e := HE.out
      rw [List.drop_of_length_le (i := j) (by simp; omega)] at e
      simp only [Sc.gapLen] at e
      omega
set_option maxHeartbeats 400000 in
theorem marks_any (w : World) : Calls Tryz.prog 52 #[] w fun e w' => e = .returned (.slice (some ⟨w.heap.size, 0, none⟩) 23 23) ∧ Below w.heap.size w w' ∧ w.heap.size < w'.heap.size ∧ Lies w' w.heap.size Sc.marks := by
  go_enter Tryz.func52, Tryz.ntmps52
  go_wp2
  go_ret
  refine ⟨rfl, (Below.refl _ _).alloc (Nat.le_refl _) _, by simp, ?_⟩
  exact lies_lit w 9 Sc.marks

end Go.Proofs.YtfjoecbkagedbaaGreatDoor
