/- Walks: the program's small functions on lists of kids. -/
import Derived.Test.YtmklgiononbmmaaDoorJd
import Derived.Test.YtmklgiononbmmaaDoorJr
namespace Go.Proofs.YtmklgiononbmmaaDoor
open Go.RowKit

theorem Tr.between_cons (a b : Int) (x : Tr.Gr) (r : List Tr.Gr) : Tr.between a b (x :: r) = (decide (a ≤ x.nd.kind) && decide (x.nd.kind ≤ b) && Tr.between a b r) := rfl

set_option maxHeartbeats 400000 in
theorem kinds_nil (p : Option Addr) (c : Nat) (a b : Int) (w : World) :
    Calls Tryd.prog 79 #[.slice p 0 c, .int .i64 a, .int .i64 b] w fun e w' => e = .returned (.bool true) ∧ Below w.heap.size w w' := by
  go_enter Tryd.func79, Tryd.ntmps79
  go_wp2
  go_loop [11] (fun t => t = .int .i64 0) (fun _ => 0)
  case atStart => rfl
  case round =>
    subst hrel
    go_wp2
    go_ret
    exact ⟨rfl, Below.refl _ _⟩

set_option maxRecDepth 100000 in
set_option maxHeartbeats 1000000 in
theorem kinds_some (l : List Tr.Gr) (g o c : Nat) (a b : Int) (w : World) (hl : l.length ≤ 1048576) (ht : GrAt w g o l) :
    Calls Tryd.prog 79 #[.slice (some ⟨g, o, none⟩) l.length c, .int .i64 a, .int .i64 b] w fun e w' => e = .returned (.bool (Tr.between a b l)) ∧ Below w.heap.size w w' := by
  have HT := hide ht
  clear ht
  go_enter Tryd.func79, Tryd.ntmps79
  go_wp2
  go_loopw [11] (fun t wr => ∃ j : Nat, j ≤ l.length ∧ t = .int .i64 j ∧ Below w.heap.size w wr ∧ Tr.between a b l = Tr.between a b (l.drop j)) (fun t _ => l.length - (intOf t).toNat)
  case atStart => exact ⟨0, Nat.zero_le _, rfl, Below.refl _ _, by simp⟩
  case round =>
    obtain ⟨j, hj, rfl, hB, he⟩ := hrel
    have HE := hide he
    clear he
    by_cases hlt : j < l.length
    · obtain ⟨c0, c1, c2, c3, c4, c5⟩ := (HT.out.below hB).2 j hlt
      have HS := hide (show Tr.between a b l = (decide (a ≤ l[j].nd.kind) && decide (l[j].nd.kind ≤ b) && Tr.between a b (l.drop (j + 1))) by rw [HE.out, List.drop_eq_getElem_cons hlt, Tr.between_cons])
      generalize l[j].nd.kind = kj at *
      by_cases h1 : kj < a
      · go_wp2
        go_ret
        refine ⟨ret_bool ?_, hB.alloc hB.size _⟩
        rw [HS.out, decide_eq_false (by omega : ¬ a ≤ kj)]; rfl
      · by_cases h2 : b < kj
        · go_wp2
          go_ret
          refine ⟨ret_bool ?_, hB.alloc hB.size _⟩
          rw [HS.out, decide_eq_false (by omega : ¬ kj ≤ b)]; simp
        · go_wp2
          go_roundw
          case rel => exact ⟨j + 1, by omega, by go_num, hB.alloc hB.size _, by rw [HS.out, decide_eq_true (by omega : a ≤ kj), decide_eq_true (by omega : kj ≤ b)]; simp⟩
          case measure => simp [intOf]; omega
    · go_wp2
      go_ret
      refine ⟨ret_bool ?_, hB⟩
      rw [HE.out, List.drop_of_length_le (by omega)]; rfl
theorem kinds_any (l : List Tr.Gr) (v : Value) (a b : Int) (w : World) (hl : l.length ≤ 1048576) (ht : GrV w v l) :
    Calls Tryd.prog 79 #[v, .int .i64 a, .int .i64 b] w fun e w' => e = .returned (.bool (Tr.between a b l)) ∧ Below w.heap.size w w' := by
  rcases ht with ⟨p, c, rfl, rfl⟩ | ⟨g, o, c, rfl, _, h⟩
  · exact kinds_nil p c a b w
  · exact kinds_some l g o c a b w hl h

theorem Tr.over_at (l : List Tr.Gr) (j h : Nat) (hj : j < l.length) : Tr.over (l.drop j) h = Tr.over (l.drop (j + 1)) (if h < l[j].high + 1 then l[j].high + 1 else h) := by
  rw [List.drop_eq_getElem_cons hj]; rfl

set_option maxHeartbeats 400000 in
theorem height_nil (p : Option Addr) (c : Nat) (w : World) :
    Calls Tryd.prog 57 #[.slice p 0 c] w fun e w' => e = .returned (.int .i64 0) ∧ Below w.heap.size w w' := by
  go_enter Tryd.func57, Tryd.ntmps57
  go_wp2
  go_loop [3, 8] (fun a t => a = .int .i64 0 ∧ t = .int .i64 0) (fun _ _ => 0)
  case atStart => exact ⟨rfl, rfl⟩
  case round =>
    obtain ⟨rfl, rfl⟩ := hrel
    go_wp2
    go_ret
    exact ⟨rfl, Below.refl _ _⟩

set_option maxRecDepth 100000 in
set_option maxHeartbeats 1000000 in
theorem height_some (l : List Tr.Gr) (g o c : Nat) (w : World) (hl : l.length ≤ 1048576) (hh : ∀ x ∈ l, x.high ≤ 1048576) (ht : GrAt w g o l) :
    Calls Tryd.prog 57 #[.slice (some ⟨g, o, none⟩) l.length c] w fun e w' => e = .returned (.int .i64 (Tr.over l 0)) ∧ Below w.heap.size w w' := by
  have HT := hide ht
  have HH := hide hh
  clear ht hh
  go_enter Tryd.func57, Tryd.ntmps57
  go_wp2
  go_loopw [3, 8] (fun a t wr => ∃ j h : Nat, j ≤ l.length ∧ t = .int .i64 j ∧ a = .int .i64 h ∧ h ≤ 1048577 ∧ Below w.heap.size w wr ∧ Tr.over l 0 = Tr.over (l.drop j) h) (fun _ t _ => l.length - (intOf t).toNat)
  case atStart => exact ⟨0, 0, Nat.zero_le _, rfl, rfl, by omega, Below.refl _ _, by simp⟩
  case round =>
    obtain ⟨j, h, hj, rfl, rfl, hh, hB, he⟩ := hrel
    have HE := hide he
    clear he
    by_cases hlt : j < l.length
    · obtain ⟨c0, c1, c2, c3, c4, c5⟩ := (HT.out.below hB).2 j hlt
      have HS := hide (show Tr.over l 0 = Tr.over (l.drop (j + 1)) (if h < l[j].high + 1 then l[j].high + 1 else h) by rw [HE.out, Tr.over_at l j h hlt])
      have hy := HH.out _ (List.getElem_mem hlt)
      generalize l[j].high = y at *
      by_cases hc : (h : Int) < (y : Int) + 1
      · go_wp2
        go_roundw
        case rel => exact ⟨j + 1, y + 1, by omega, by go_num, by first | go_num | (congr 1; omega), by omega, hB.alloc hB.size _, by rw [HS.out, if_pos (by omega)]⟩
        case measure => simp [intOf]; omega
      · go_wp2
        go_roundw
        case rel => exact ⟨j + 1, h, by omega, by go_num, by first | rfl | (congr 1; omega), by omega, hB.alloc hB.size _, by rw [HS.out, if_neg (by omega)]⟩
        case measure => simp [intOf]; omega
    · go_wp2
      go_ret
      refine ⟨ret_int ?_, hB⟩
      rw [HE.out, List.drop_of_length_le (by omega)]; rfl
theorem height_any (l : List Tr.Gr) (v : Value) (w : World) (hl : l.length ≤ 1048576) (hh : ∀ x ∈ l, x.high ≤ 1048576) (ht : GrV w v l) :
    Calls Tryd.prog 57 #[v] w fun e w' => e = .returned (.int .i64 (Tr.over l 0)) ∧ Below w.heap.size w w' := by
  rcases ht with ⟨p, c, rfl, rfl⟩ | ⟨g, o, c, rfl, _, h⟩
  · exact height_nil p c w
  · exact height_some l g o c w hl hh h

/-- How many different texts there are, against how many texts. -/
def Tr.addS (L : List (List UInt8)) (x : List UInt8) : List (List UInt8) := if x ∈ L then L else L ++ [x]
theorem Tr.addKey_S (L : List (List UInt8)) (x : List UInt8) : Maps.addKey (L.map Lit.string) (.string x) = (Tr.addS L x).map Lit.string := by
  unfold Maps.addKey Tr.addS
  have h : (L.map Lit.string).any (fun y => y.sameKey (.string x)) = decide (x ∈ L) := by
    rw [Bool.eq_iff_iff]
    simp [Lit.sameKey]
  rw [h]
  by_cases e : x ∈ L
  · simp [e]
  · simp [e]
theorem Tr.fold_S (xs L : List (List UInt8)) : (xs.map Lit.string).foldl Maps.addKey (L.map Lit.string) = (xs.foldl Tr.addS L).map Lit.string := by
  induction xs generalizing L with
  | nil => rfl
  | cons x r ih => rw [List.map_cons, List.foldl_cons, List.foldl_cons, Tr.addKey_S, ih]
theorem Tr.fold_len (xs L : List (List UInt8)) : (xs.foldl Tr.addS L).length ≤ L.length + xs.length ∧ ((xs.foldl Tr.addS L).length = L.length + xs.length ↔ xs.Nodup ∧ ∀ x ∈ xs, x ∉ L) := by
  induction xs generalizing L with
  | nil => simp
  | cons x r ih =>
    rw [List.foldl_cons]
    by_cases e : x ∈ L
    · have h1 := (ih L).1
      have : Tr.addS L x = L := if_pos e
      rw [this]
      refine ⟨by simp only [List.length_cons]; omega, ⟨fun h => ?_, fun h => absurd e (h.2 x (by simp))⟩⟩
      simp only [List.length_cons] at h
      omega
    · have h1 := ih (L ++ [x])
      have : Tr.addS L x = L ++ [x] := if_neg e
      rw [this]
      simp only [List.length_append, List.length_cons, List.length_nil] at h1 ⊢
      refine ⟨by omega, ?_⟩
      rw [show (r.foldl Tr.addS (L ++ [x])).length = L.length + (r.length + 1) ↔ (r.foldl Tr.addS (L ++ [x])).length = L.length + (0 + 1) + r.length from by omega, h1.2]
      simp only [List.nodup_cons, List.mem_append, List.mem_cons, List.not_mem_nil, or_false]
      constructor
      · rintro ⟨a, b⟩
        exact ⟨⟨fun h => (b x h) (.inr rfl), a⟩, fun y hy => by
          rcases hy with rfl | hy
          · exact e
          · exact fun h => b y hy (.inl h)⟩
      · rintro ⟨⟨a, b⟩, c⟩
        exact ⟨b, fun y hy h => by
          rcases h with h | rfl
          · exact c y (.inr hy) h
          · exact a hy⟩
def Tr.keys (l : List Tr.Gr) : List Lit := l.map fun g => Lit.string g.nd.text.data.toList
theorem Tr.keys_ok (l : List Tr.Gr) : ∀ x ∈ Tr.keys l, WideAt.IsKeyLit x := by
  intro x hx
  simp only [Tr.keys, List.mem_map] at hx
  obtain ⟨y, _, rfl⟩ := hx
  trivial
theorem Tr.differ_size (l : List Tr.Gr) : (Maps.size (Maps.setOf (H := Unit) (.agg []) (Tr.keys l)) = l.length ↔ Tr.differ l = true) ∧ Maps.size (Maps.setOf (H := Unit) (.agg []) (Tr.keys l)) ≤ l.length := by
  have e : Tr.keys l = (l.map fun g => g.nd.text.data.toList).map Lit.string := by simp [Tr.keys]
  have h := Tr.fold_len (l.map fun g => g.nd.text.data.toList) []
  have f := Tr.fold_S (l.map fun g => g.nd.text.data.toList) []
  rw [Maps.size_setOf _ _ (Tr.keys_ok l), e, show ([] : List Lit) = List.map Lit.string [] from rfl, f, List.length_map]
  simp only [List.length_nil, Nat.zero_add, List.length_map] at h
  refine ⟨h.2.trans ?_, h.1⟩
  unfold Tr.differ
  rw [decide_eq_true_iff]
  simp only [List.not_mem_nil, not_false_eq_true, implies_true, and_true]
  rw [List.nodup_iff_pairwise_ne, List.nodup_iff_pairwise_ne, List.pairwise_map, List.pairwise_map]
  constructor
  · intro q; exact q.imp fun hne e => hne (by rw [e])
  · intro q; exact q.imp fun hne e => hne (ByteArray.ext (Array.toList_inj.1 e))

set_option maxHeartbeats 400000 in
theorem texts_nil (p : Option Addr) (c : Nat) (w : World) :
    Calls Tryd.prog 80 #[.slice p 0 c] w fun e w' => e = .returned (.bool true) ∧ Below w.heap.size w w' := by
  have hmm := @run_makeMap Tryd.prog
  have hm0 := World.ownsMap_made (H := Unit) w Tryd.prog 9 unitElem
  go_enter Tryd.func80, Tryd.ntmps80
  go_wp2
  go_loopw [9] (fun t wr => t = .int .i64 0 ∧ wr = w.alloc (.map #[] 0)) (fun _ _ => 0)
  case atStart => exact ⟨rfl, rfl⟩
  case round =>
    obtain ⟨rfl, rfl⟩ := hrel
    go_wp2_with (at_len; refine wpList_len_own _ rfl _ 90 rfl 9 66 Tryd.underlying90 _ w.heap.size _ _ rfl hm0 ?_)
    go_ret
    exact ⟨rfl, (Below.refl _ _).alloc (Nat.le_refl _) _⟩

set_option maxRecDepth 100000 in
set_option maxHeartbeats 1000000 in
theorem texts_some (l : List Tr.Gr) (g o c : Nat) (w : World) (hl : l.length ≤ 1048576) (hh : ∀ x ∈ l, x.nd.text.size ≤ 1048576) (ht : GrAt w g o l) :
    Calls Tryd.prog 80 #[.slice (some ⟨g, o, none⟩) l.length c] w fun e w' => e = .returned (.bool (Tr.differ l)) ∧ Below w.heap.size w w' := by
  have hmm := @run_makeMap Tryd.prog
  have hm0 := World.ownsMap_made (H := Unit) w Tryd.prog 9 unitElem
  have hb0 : Below w.heap.size w (w.alloc (.map #[] 0)) := (Below.refl _ _).alloc (Nat.le_refl _) _
  have HT := hide ht
  have HH := hide hh
  have HM := hide hm0
  clear ht hh hm0
  go_enter Tryd.func80, Tryd.ntmps80
  go_wp2
  go_loopw [9] (fun t wr => ∃ j : Nat, j ≤ l.length ∧ t = .int .i64 j ∧ Below w.heap.size w wr ∧ w.heap.size < wr.heap.size ∧ wr.ownsMap (H := Unit) Tryd.prog 9 unitElem w.heap.size j (Maps.setOf (.agg []) (Tr.keys (l.take j)))) (fun t _ => l.length - (intOf t).toNat)
  case atStart => exact ⟨0, Nat.zero_le _, rfl, hb0, by simp, HM.out⟩
  case round =>
    obtain ⟨j, hj, rfl, hB, hz, hown⟩ := hrel
    have HO := hide hown
    clear hown
    by_cases hlt : j < l.length
    · obtain ⟨c0, c1, c2, c3, c4, c5⟩ := (HT.out.below hB).2 j hlt
      have hy := HH.out _ (List.getElem_mem hlt)
      have HK := hide (show Maps.setOf (H := Unit) (.agg []) (Tr.keys (l.take (j + 1))) = (Maps.setOf (.agg []) (Tr.keys (l.take j))).put (.string l[j].nd.text.data.toList) (.agg []) by
        rw [← Maps.setOf_snoc]; congr 1; unfold Tr.keys; rw [List.take_succ_eq_append_getElem hlt, List.map_append]; rfl)
      have HY : Hid (keyOf Tryd.prog 9 (.string l[j].nd.text) = some (.string l[j].nd.text.data.toList)) := hide (WideMaps.keyOf_string_mk Tryd.underlying9 (by unfold maxLen; omega))
      generalize l[j].nd.text = tx at *
      go_wp2_with (at_mapUpdate; refine wpList_mapUpdate_own _ rfl _ _ _ 90 rfl 9 66 lawS Tryd.underlying90 _ w.heap.size j _ rfl (HO.out.alloc _) (by unfold maxLen; omega) _ _ _ rfl rfl HY.out _ [] unitElem_mk ?_)
      intro w1 hown1 hgrow1
      have hB1 : Below w.heap.size w w1 := (hB.alloc hB.size _).grown hgrow1 (by simp; omega) (fun k e => by cases e; exact Nat.le_refl _)
      have hz1 : w.heap.size < w1.heap.size := by have := hgrow1.size; simp at this; omega
      rw [← HK.out] at hown1
      go_wp2
      go_roundw
      case rel => exact ⟨j + 1, by omega, by go_num, hB1, hz1, hown1⟩
      case measure => simp [intOf]; omega
    · have hq := Tr.differ_size l
      have HL : Hid (wr.ownsMap (H := Unit) Tryd.prog 9 unitElem w.heap.size j (Maps.setOf (.agg []) (Tr.keys l))) := hide (by have := HO.out; rwa [List.take_of_length_le (by omega)] at this)
      generalize Maps.setOf (H := Unit) (.agg []) (Tr.keys l) = D at *
      go_wp2_with (at_len; refine wpList_len_own _ rfl _ 90 rfl 9 66 Tryd.underlying90 _ w.heap.size j D rfl HL.out ?_)
      all_goals
        go_ret
        refine ⟨ret_bool ?_, hB⟩
        rw [Bool.eq_iff_iff, ← hq.1]
        simp
        omega
theorem texts_any (l : List Tr.Gr) (v : Value) (w : World) (hl : l.length ≤ 1048576) (hh : ∀ x ∈ l, x.nd.text.size ≤ 1048576) (ht : GrV w v l) :
    Calls Tryd.prog 80 #[v] w fun e w' => e = .returned (.bool (Tr.differ l)) ∧ Below w.heap.size w w' := by
  rcases ht with ⟨p, c, rfl, rfl⟩ | ⟨g, o, c, rfl, _, h⟩
  · exact texts_nil p c w
  · exact texts_some l g o c w hl hh h
end Go.Proofs.YtmklgiononbmmaaDoor
