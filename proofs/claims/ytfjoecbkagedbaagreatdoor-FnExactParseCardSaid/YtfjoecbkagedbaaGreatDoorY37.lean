/- Jd, Jb. -/
import Derived.Test.YtfjoecbkagedbaaGreatDoorY01
import Derived.Maps.OwnSet
import Derived.Lib.IndexAny
import Derived.Lib.IndexLaws
import Derived.Shelf.Small.Strs
namespace Go.Proofs.YtfjoecbkagedbaaGreatDoor
open Go.RowKit

/-- A node that has got its kids, with its height. -/
structure Tr.Gr where
  nd : Tr.Nd
  high : Nat
def Tr.over : List Tr.Gr → Nat → Nat
  | [], h => h
  | x :: r, h => Tr.over r (if h < x.high + 1 then x.high + 1 else h)
def Tr.count (k n : Int) : Bool :=
  if k = 1 ∨ k = 2 ∨ k = 3 ∨ k = 4 ∨ k = 5 then decide (0 ≤ n ∧ n ≤ 0)
  else if k = 6 ∨ k = 11 ∨ k = 17 ∨ k = 18 ∨ k = 21 ∨ k = 22 then decide (1 ≤ n ∧ n ≤ 1)
  else if k = 7 ∨ k = 10 ∨ k = 14 then decide (2 ≤ n ∧ n ≤ 2)
  else if k = 13 then decide (3 ≤ n ∧ n ≤ 3)
  else if k = 16 then decide (2 ≤ n ∧ n ≤ 3)
  else if k = 19 then decide (0 ≤ n ∧ n ≤ 1)
  else if k = 8 ∨ k = 9 ∨ k = 24 then decide (0 ≤ n ∧ n ≤ 200)
  else if k = 23 then decide (1 ≤ n ∧ n ≤ 200)
  else if k = 12 ∨ k = 15 ∨ k = 20 then decide (1 ≤ n ∧ n ≤ 9)
  else decide (0 ≤ n ∧ n ≤ -1)
def Tr.between (a b : Int) (l : List Tr.Gr) : Bool := l.all fun g => decide (a ≤ g.nd.kind) && decide (g.nd.kind ≤ b)
def Tr.differ (l : List Tr.Gr) : Bool := decide ((l.map fun g => g.nd.text).Nodup)
def Tr.plainN (l : List Tr.Gr) : Nat := 1 + ((l.drop 1).takeWhile fun g => g.nd.kind != 18).length
def Tr.fits (k : Int) (l : List Tr.Gr) : Bool :=
  if k = 9 then Tr.between 17 17 l && Tr.differ l
  else if k = 12 then Tr.between 1 16 (l.take (Tr.plainN l)) && Tr.between 18 18 (l.drop (Tr.plainN l)) && Tr.differ (l.drop (Tr.plainN l))
  else if k = 15 ∨ k = 20 then Tr.between 19 19 (l.take (l.length - 1)) && Tr.between 1 16 (l.drop (l.length - 1))
  else if k = 23 then Tr.between 5 5 l
  else if k = 24 then Tr.between 20 23 l
  else Tr.between 1 16 l
def Tr.nodeOk (x : Tr.Nd) (l : List Tr.Gr) : Bool := Tr.plain x && Tr.count x.kind x.kids && Tr.fits x.kind l
def Tr.irun : List Tr.Nd → List Tr.Gr → Option (List Tr.Gr)
  | [], op => some op
  | x :: r, op => if x.kids < 0 ∨ (op.length : Int) < x.kids then none else
      if Tr.nodeOk x (op.drop (op.length - x.kids.toNat)) = true then Tr.irun r (op.take (op.length - x.kids.toNat) ++ [⟨x, Tr.over (op.drop (op.length - x.kids.toNat)) 0⟩]) else none
def Tr.iend : Option (List Tr.Gr) → Bool
  | some [g] => (g.nd.kind == 24) && decide (g.high ≤ 50)
  | _ => false
def Tr.ivalid (ns : List Tr.Nd) : Bool := decide (ns.length ≤ 5000) && Tr.iend (Tr.irun ns [])


/-- Grown nodes lie in a block from a cell on, six cells each. -/
def GrAt (w : World) (g o : Nat) (l : List Tr.Gr) : Prop := g < w.heap.size ∧ ∀ j (h : j < l.length), w.cell? ⟨g, o + j * 6, none⟩ = some (.int .i64 l[j].nd.kind) ∧ w.cell? ⟨g, o + j * 6 + 1, none⟩ = some (.int .i64 l[j].nd.op) ∧ w.cell? ⟨g, o + j * 6 + 2, none⟩ = some (.int .i64 l[j].nd.n) ∧ w.cell? ⟨g, o + j * 6 + 3, none⟩ = some (.string l[j].nd.text) ∧ w.cell? ⟨g, o + j * 6 + 4, none⟩ = some (.int .i64 l[j].nd.kids) ∧ w.cell? ⟨g, o + j * 6 + 5, none⟩ = some (.int .i64 l[j].high)
theorem GrAt.below {w w' : World} {g o : Nat} {l : List Tr.Gr} (h : GrAt w g o l) (hb : Below w.heap.size w w') : GrAt w' g o l := by
  refine ⟨Nat.lt_of_lt_of_le h.1 hb.size, fun i hi => ?_⟩
  obtain ⟨a, b, c, d, e, f⟩ := h.2 i hi
  exact ⟨(hb.cell (p := ⟨g, o + i * 6, none⟩) h.1).trans a, (hb.cell (p := ⟨g, o + i * 6 + 1, none⟩) h.1).trans b, (hb.cell (p := ⟨g, o + i * 6 + 2, none⟩) h.1).trans c, (hb.cell (p := ⟨g, o + i * 6 + 3, none⟩) h.1).trans d, (hb.cell (p := ⟨g, o + i * 6 + 4, none⟩) h.1).trans e, (hb.cell (p := ⟨g, o + i * 6 + 5, none⟩) h.1).trans f⟩
theorem GrAt.drop {w : World} {g o : Nat} {l : List Tr.Gr} (h : GrAt w g o l) (k : Nat) : GrAt w g (o + k * 6) (l.drop k) := by
  refine ⟨h.1, fun j hj => ?_⟩
  have := h.2 (k + j) (by simp at hj; omega)
  rw [List.getElem_drop]
  rw [show o + k * 6 + j * 6 = o + (k + j) * 6 from by omega]
  exact this
theorem GrAt.take {w : World} {g o : Nat} {l : List Tr.Gr} (h : GrAt w g o l) (k : Nat) : GrAt w g o (l.take k) := by
  refine ⟨h.1, fun j hj => ?_⟩
  have := h.2 j (by simp at hj; omega)
  rw [List.getElem_take]
  exact this
/-- A slice value that shows these grown nodes. -/
def GrV (w : World) (v : Value) (l : List Tr.Gr) : Prop := (∃ p c, v = .slice p 0 c ∧ l = []) ∨ ∃ g o c, v = .slice (some ⟨g, o, none⟩) l.length c ∧ l.length ≤ c ∧ GrAt w g o l
theorem GrV.below {w w' : World} {v : Value} {l : List Tr.Gr} (h : GrV w v l) (hb : Below w.heap.size w w') : GrV w' v l := by
  rcases h with h | ⟨g, o, c, h1, h3, h2⟩
  · exact .inl h
  · exact .inr ⟨g, o, c, h1, h3, h2.below hb⟩
theorem GrAt.dropV {w : World} {g o c p n : Nat} {l : List Tr.Gr} (h : GrAt w g o l) (hp : p ≤ l.length) (hc : l.length ≤ c) (hn : n = l.length - p) : GrV w (.slice (if c = p then some ⟨g, o, none⟩ else some ⟨g, o + p * 6, none⟩) n (c - p)) (l.drop p) := by
  subst hn
  by_cases e : c = p
  · rw [if_pos e]
    have : l.length - p = 0 := by omega
    exact .inl ⟨_, _, by rw [this], List.drop_of_length_le (by omega)⟩
  · rw [if_neg e]
    exact .inr ⟨g, _, _, by rw [List.length_drop], by rw [List.length_drop]; omega, h.drop p⟩
theorem GrAt.dropQ {w : World} {g o c p n : Nat} {l : List Tr.Gr} (h : GrAt w g o l) (hp : p ≤ l.length) (hc : l.length ≤ c) (hn : n = l.length - p) : ∀ q, q = some ⟨g, o + p * 6, none⟩ ∨ c = p → GrV w (.slice q n (c - p)) (l.drop p) := by
  intro q hq
  subst hn
  by_cases e : c = p
  · have : l.length - p = 0 := by omega
    exact .inl ⟨_, _, by rw [this], List.drop_of_length_le (by omega)⟩
  · obtain rfl := hq.resolve_right e
    exact .inr ⟨g, _, _, by rw [List.length_drop], by rw [List.length_drop]; omega, h.drop p⟩
theorem GrAt.takeV {w : World} {g o c p : Nat} {l : List Tr.Gr} (h : GrAt w g o l) (hp : p ≤ l.length) (hc : l.length ≤ c) : GrV w (.slice (some ⟨g, o, none⟩) p c) (l.take p) :=
  .inr ⟨g, o, c, by rw [List.length_take, Nat.min_eq_left hp], by rw [List.length_take, Nat.min_eq_left hp]; omega, h.take p⟩
end Go.Proofs.YtfjoecbkagedbaaGreatDoor
namespace Go.Proofs.YtfjoecbkagedbaaGreatDoor
open Go.RowKit

theorem Tr.between_cons (a b : Int) (x : Tr.Gr) (r : List Tr.Gr) : Tr.between a b (x :: r) = (decide (a ≤ x.nd.kind) && decide (x.nd.kind ≤ b) && Tr.between a b r) := rfl

set_option maxHeartbeats 400000 in
theorem kinds_nil (p : Option Addr) (c : Nat) (a b : Int) (w : World) :
    Calls Tryz.prog 71 #[.slice p 0 c, .int .i64 a, .int .i64 b] w fun e w' => e = .returned (.bool true) ∧ Below w.heap.size w w' := by
  go_enter Tryz.func71, Tryz.ntmps71
  go_wp2
  go_loop [11] (fun t => t = .int .i64 0) (fun _ => 0)
  case atStart => rfl
  case round =>
    subst hrel
    go_wp2
    go_ret
    exact ⟨rfl, Below.refl _ _⟩

set_option maxRecDepth 100000 in
set_option maxHeartbeats 1000000 in
theorem kinds_some (l : List Tr.Gr) (g o c : Nat) (a b : Int) (w : World) (hl : l.length ≤ 1048576) (ht : GrAt w g o l) :
    Calls Tryz.prog 71 #[.slice (some ⟨g, o, none⟩) l.length c, .int .i64 a, .int .i64 b] w fun e w' => e = .returned (.bool (Tr.between a b l)) ∧ Below w.heap.size w w' := by
  have HT := hide ht
  clear ht
  go_enter Tryz.func71, Tryz.ntmps71
  go_wp2
  go_loopw [11] (fun t wr => ∃ j : Nat, j ≤ l.length ∧ t = .int .i64 j ∧ Below w.heap.size w wr ∧ Tr.between a b l = Tr.between a b (l.drop j)) (fun t _ => l.length - (intOf t).toNat)
  case atStart => exact ⟨0, Nat.zero_le _, rfl, Below.refl _ _, by simp⟩
  case round =>
    obtain ⟨j, hj, rfl, hB, he⟩ := hrel
    have HE := hide he
    clear he
    by_cases hlt : j < l.length
    · obtain ⟨c0, c1, c2, c3, c4, c5⟩ := (HT.out.below hB).2 j hlt
      have HS := hide (show Tr.between a b l = (decide (a ≤ l[j].nd.kind) && decide (l[j].nd.kind ≤ b) && Tr.between a b (l.drop (j + 1))) by rw [HE.out, List.drop_eq_getElem_cons hlt, Tr.between_cons])
      generalize l[j].nd.kind = kj at *
      by_cases h1 : kj < a
      · go_wp2
        go_ret
        refine ⟨ret_bool ?_, hB.alloc hB.size _⟩
        rw [HS.out, decide_eq_false (by omega : ¬ a ≤ kj)]; rfl
      · by_cases h2 : b < kj
        · go_wp2
          go_ret
          refine ⟨ret_bool ?_, hB.alloc hB.size _⟩
          rw [HS.out, decide_eq_false (by omega : ¬ kj ≤ b)]; simp
        · go_wp2
          go_roundw
          case rel => exact ⟨j + 1, by omega, by go_num, hB.alloc hB.size _, by rw [HS.out, decide_eq_true (by omega : a ≤ kj), decide_eq_true (by omega : kj ≤ b)]; simp⟩
          case measure => simp [intOf]; omega
    · go_wp2
      go_ret
      refine ⟨ret_bool ?_, hB⟩
      rw [HE.out, List.drop_of_length_le (by omega)]; rfl
theorem kinds_any (l : List Tr.Gr) (v : Value) (a b : Int) (w : World) (hl : l.length ≤ 1048576) (ht : GrV w v l) :
    Calls Tryz.prog 71 #[v, .int .i64 a, .int .i64 b] w fun e w' => e = .returned (.bool (Tr.between a b l)) ∧ Below w.heap.size w w' := by
  rcases ht with ⟨p, c, rfl, rfl⟩ | ⟨g, o, c, rfl, _, h⟩
  · exact kinds_nil p c a b w
  · exact kinds_some l g o c a b w hl h

theorem Tr.over_at (l : List Tr.Gr) (j h : Nat) (hj : j < l.length) : Tr.over (l.drop j) h = Tr.over (l.drop (j + 1)) (if h < l[j].high + 1 then l[j].high + 1 else h) := by
  rw [List.drop_eq_getElem_cons hj]; rfl

set_option maxHeartbeats 400000 in
theorem height_nil (p : Option Addr) (c : Nat) (w : World) :
    Calls Tryz.prog 42 #[.slice p 0 c] w fun e w' => e = .returned (.int .i64 0) ∧ Below w.heap.size w w' := by
  go_enter Tryz.func42, Tryz.ntmps42
  go_wp2
  go_loop [3, 8] (fun a t => a = .int .i64 0 ∧ t = .int .i64 0) (fun _ _ => 0)
  case atStart => exact ⟨rfl, rfl⟩
  case round =>
    obtain ⟨rfl, rfl⟩ := hrel
    go_wp2
    go_ret
    exact ⟨rfl, Below.refl _ _⟩

set_option maxRecDepth 100000 in
set_option maxHeartbeats 1000000 in
theorem height_some (l : List Tr.Gr) (g o c : Nat) (w : World) (hl : l.length ≤ 1048576) (hh : ∀ x ∈ l, x.high ≤ 1048576) (ht : GrAt w g o l) :
    Calls Tryz.prog 42 #[.slice (some ⟨g, o, none⟩) l.length c] w fun e w' => e = .returned (.int .i64 (Tr.over l 0)) ∧ Below w.heap.size w w' := by
  have HT := hide ht
  have HH := hide hh
  clear ht hh
  go_enter Tryz.func42, Tryz.ntmps42
  go_wp2
  go_loopw [3, 8] (fun a t wr => ∃ j h : Nat, j ≤ l.length ∧ t = .int .i64 j ∧ a = .int .i64 h ∧ h ≤ 1048577 ∧ Below w.heap.size w wr ∧ Tr.over l 0 = Tr.over (l.drop j) h) (fun _ t _ => l.length - (intOf t).toNat)
  case atStart => exact ⟨0, 0, Nat.zero_le _, rfl, rfl, by omega, Below.refl _ _, by simp⟩
  case round =>
    obtain ⟨j, h, hj, rfl, rfl, hh, hB, he⟩ := hrel
    have HE := hide he
    clear he
    by_cases hlt : j < l.length
    · obtain ⟨c0, c1, c2, c3, c4, c5⟩ := (HT.out.below hB).2 j hlt
      have HS := hide (show Tr.over l 0 = Tr.over (l.drop (j + 1)) (if h < l[j].high + 1 then l[j].high + 1 else h) by rw [HE.out, Tr.over_at l j h hlt])
      have hy := HH.out _ (List.getElem_mem hlt)
      generalize l[j].high = y at *
      by_cases hc : (h : Int) < (y : Int) + 1
      · go_wp2
        go_roundw
        case rel => exact ⟨j + 1, y + 1, by omega, by go_num, by first | go_num | (congr 1; omega), by omega, hB.alloc hB.size _, by rw [HS.out, if_pos (by omega)]⟩
        case measure => simp [intOf]; omega
      · go_wp2
        go_roundw
        case rel => exact ⟨j + 1, h, by omega, by go_num, by first | rfl | (congr 1; omega), by omega, hB.alloc hB.size _, by rw [HS.out, if_neg (by omega)]⟩
        case measure => simp [intOf]; omega
    · go_wp2
      go_ret
      refine ⟨ret_int ?_, hB⟩
      rw [HE.out, List.drop_of_length_le (by omega)]; rfl
theorem height_any (l : List Tr.Gr) (v : Value) (w : World) (hl : l.length ≤ 1048576) (hh : ∀ x ∈ l, x.high ≤ 1048576) (ht : GrV w v l) :
    Calls Tryz.prog 42 #[v] w fun e w' => e = .returned (.int .i64 (Tr.over l 0)) ∧ Below w.heap.size w w' := by
  rcases ht with ⟨p, c, rfl, rfl⟩ | ⟨g, o, c, rfl, _, h⟩
  · exact height_nil p c w
  · exact height_some l g o c w hl hh h

/-- How many different texts there are, against how many texts. -/
def Tr.addS (L : List (List UInt8)) (x : List UInt8) : List (List UInt8) := if x ∈ L then L else L ++ [x]
theorem Tr.addKey_S (L : List (List UInt8)) (x : List UInt8) : Maps.addKey (L.map Lit.string) (.string x) = (Tr.addS L x).map Lit.string := by
  unfold Maps.addKey Tr.addS
  have h : (L.map Lit.string).any (fun y => y.sameKey (.string x)) = decide (x ∈ L) := by
    rw [Bool.eq_iff_iff]
    simp [Lit.sameKey]
  rw [h]
  by_cases e : x ∈ L
  · simp [e]
  · simp [e]
theorem Tr.fold_S (xs L : List (List UInt8)) : (xs.map Lit.string).foldl Maps.addKey (L.map Lit.string) = (xs.foldl Tr.addS L).map Lit.string := by
  induction xs generalizing L with
  | nil => rfl
  | cons x r ih => rw [List.map_cons, List.foldl_cons, List.foldl_cons, Tr.addKey_S, ih]
theorem Tr.fold_len (xs L : List (List UInt8)) : (xs.foldl Tr.addS L).length ≤ L.length + xs.length ∧ ((xs.foldl Tr.addS L).length = L.length + xs.length ↔ xs.Nodup ∧ ∀ x ∈ xs, x ∉ L) := by
  induction xs generalizing L with
  | nil => simp
  | cons x r ih =>
    rw [List.foldl_cons]
    by_cases e : x ∈ L
    · have h1 := (ih L).1
      have : Tr.addS L x = L := if_pos e
      rw [this]
      refine ⟨by simp only [List.length_cons]; omega, ⟨fun h => ?_, fun h => absurd e (h.2 x (by simp))⟩⟩
      simp only [List.length_cons] at h
      omega
    · have h1 := ih (L ++ [x])
      have : Tr.addS L x = L ++ [x] := if_neg e
      rw [this]
      simp only [List.length_append, List.length_cons, List.length_nil] at h1 ⊢
      refine ⟨by omega, ?_⟩
      rw [show (r.foldl Tr.addS (L ++ [x])).length = L.length + (r.length + 1) ↔ (r.foldl Tr.addS (L ++ [x])).length = L.length + (0 + 1) + r.length from by omega, h1.2]
      simp only [List.nodup_cons, List.mem_append, List.mem_cons, List.not_mem_nil, or_false]
      constructor
      · rintro ⟨a, b⟩
        exact ⟨⟨fun h => (b x h) (.inr rfl), a⟩, fun y hy => by
          rcases hy with rfl | hy
          · exact e
          · exact fun h => b y hy (.inl h)⟩
      · rintro ⟨⟨a, b⟩, c⟩
        exact ⟨b, fun y hy h => by
          rcases h with h | rfl
          · exact c y (.inr hy) h
          · exact a hy⟩
def Tr.keys (l : List Tr.Gr) : List Lit := l.map fun g => Lit.string g.nd.text.data.toList
theorem Tr.keys_ok (l : List Tr.Gr) : ∀ x ∈ Tr.keys l, WideAt.IsKeyLit x := by
  intro x hx
  simp only [Tr.keys, List.mem_map] at hx
  obtain ⟨y, _, rfl⟩ := hx
  trivial
theorem Tr.differ_size (l : List Tr.Gr) : (Maps.size (Maps.setOf (H := Unit) (.agg []) (Tr.keys l)) = l.length ↔ Tr.differ l = true) ∧ Maps.size (Maps.setOf (H := Unit) (.agg []) (Tr.keys l)) ≤ l.length := by
  have e : Tr.keys l = (l.map fun g => g.nd.text.data.toList).map Lit.string := by simp [Tr.keys]
  have h := Tr.fold_len (l.map fun g => g.nd.text.data.toList) []
  have f := Tr.fold_S (l.map fun g => g.nd.text.data.toList) []
  rw [Maps.size_setOf _ _ (Tr.keys_ok l), e, show ([] : List Lit) = List.map Lit.string [] from rfl, f, List.length_map]
  simp only [List.length_nil, Nat.zero_add, List.length_map] at h
  refine ⟨h.2.trans ?_, h.1⟩
  unfold Tr.differ
  rw [decide_eq_true_iff]
  simp only [List.not_mem_nil, not_false_eq_true, implies_true, and_true]
  rw [List.nodup_iff_pairwise_ne, List.nodup_iff_pairwise_ne, List.pairwise_map, List.pairwise_map]
  constructor
  · intro q; exact q.imp fun hne e => hne (by rw [e])
  · intro q; exact q.imp fun hne e => hne (ByteArray.ext (Array.toList_inj.1 e))

theorem lawS : Maps.Keyed Tryz.prog 9 := Maps.string_keyed Tryz.underlying9
theorem zeroU (w : World) : (zeroValue 127).run Tryz.prog w = .ok (.agg #[]) w := by kernel_rfl

set_option maxHeartbeats 400000 in
theorem texts_nil (p : Option Addr) (c : Nat) (w : World) :
    Calls Tryz.prog 72 #[.slice p 0 c] w fun e w' => e = .returned (.bool true) ∧ Below w.heap.size w w' := by
  have hmm := @run_makeMap Tryz.prog
  have hm0 := World.ownsMap_made (H := Unit) w Tryz.prog 9 unitElem
  go_enter Tryz.func72, Tryz.ntmps72
  go_wp2
  go_loopw [9] (fun t wr => t = .int .i64 0 ∧ wr = w.alloc (.map #[] 0)) (fun _ _ => 0)
  case atStart => exact ⟨rfl, rfl⟩
  case round =>
    obtain ⟨rfl, rfl⟩ := hrel
    go_wp2_with (at_len; refine wpList_len_own _ rfl _ 80 rfl 9 127 Tryz.underlying80 _ w.heap.size _ _ rfl hm0 ?_)
    go_ret
    exact ⟨rfl, (Below.refl _ _).alloc (Nat.le_refl _) _⟩

set_option maxRecDepth 100000 in
set_option maxHeartbeats 1000000 in
theorem texts_some (l : List Tr.Gr) (g o c : Nat) (w : World) (hl : l.length ≤ 1048576) (hh : ∀ x ∈ l, x.nd.text.size ≤ 1048576) (ht : GrAt w g o l) :
    Calls Tryz.prog 72 #[.slice (some ⟨g, o, none⟩) l.length c] w fun e w' => e = .returned (.bool (Tr.differ l)) ∧ Below w.heap.size w w' := by
  have hmm := @run_makeMap Tryz.prog
  have hm0 := World.ownsMap_made (H := Unit) w Tryz.prog 9 unitElem
  have hb0 : Below w.heap.size w (w.alloc (.map #[] 0)) := (Below.refl _ _).alloc (Nat.le_refl _) _
  have HT := hide ht
  have HH := hide hh
  have HM := hide hm0
  clear ht hh hm0
  go_enter Tryz.func72, Tryz.ntmps72
  go_wp2
  go_loopw [9] (fun t wr => ∃ j : Nat, j ≤ l.length ∧ t = .int .i64 j ∧ Below w.heap.size w wr ∧ w.heap.size < wr.heap.size ∧ wr.ownsMap (H := Unit) Tryz.prog 9 unitElem w.heap.size j (Maps.setOf (.agg []) (Tr.keys (l.take j)))) (fun t _ => l.length - (intOf t).toNat)
  case atStart => exact ⟨0, Nat.zero_le _, rfl, hb0, by simp, HM.out⟩
  case round =>
    obtain ⟨j, hj, rfl, hB, hz, hown⟩ := hrel
    have HO := hide hown
    clear hown
    by_cases hlt : j < l.length
    · obtain ⟨c0, c1, c2, c3, c4, c5⟩ := (HT.out.below hB).2 j hlt
      have hy := HH.out _ (List.getElem_mem hlt)
      have HK := hide (show Maps.setOf (H := Unit) (.agg []) (Tr.keys (l.take (j + 1))) = (Maps.setOf (.agg []) (Tr.keys (l.take j))).put (.string l[j].nd.text.data.toList) (.agg []) by
        rw [← Maps.setOf_snoc]; congr 1; unfold Tr.keys; rw [List.take_succ_eq_append_getElem hlt, List.map_append]; rfl)
      have HY : Hid (keyOf Tryz.prog 9 (.string l[j].nd.text) = some (.string l[j].nd.text.data.toList)) := hide (WideMaps.keyOf_string_mk Tryz.underlying9 (by unfold maxLen; omega))
      generalize l[j].nd.text = tx at *
      go_wp2_with (at_mapUpdate; refine wpList_mapUpdate_own _ rfl _ _ _ 80 rfl 9 127 lawS Tryz.underlying80 _ w.heap.size j _ rfl (HO.out.alloc _) (by unfold maxLen; omega) _ _ _ rfl rfl HY.out _ [] unitElem_mk ?_)
      intro w1 hown1 hgrow1
      have hB1 : Below w.heap.size w w1 := (hB.alloc hB.size _).grown hgrow1 (by simp; omega) (fun k e => by cases e; exact Nat.le_refl _)
      have hz1 : w.heap.size < w1.heap.size := by have := hgrow1.size; simp at this; omega
      rw [← HK.out] at hown1
      go_wp2
      go_roundw
      case rel => exact ⟨j + 1, by omega, by go_num, hB1, hz1, hown1⟩
      case measure => simp [intOf]; omega
    · have hq := Tr.differ_size l
      have HL : Hid (wr.ownsMap (H := Unit) Tryz.prog 9 unitElem w.heap.size j (Maps.setOf (.agg []) (Tr.keys l))) := hide (by have := HO.out; rwa [List.take_of_length_le (by omega)] at this)
      generalize Maps.setOf (H := Unit) (.agg []) (Tr.keys l) = D at *
      go_wp2_with (at_len; refine wpList_len_own _ rfl _ 80 rfl 9 127 Tryz.underlying80 _ w.heap.size j D rfl HL.out ?_)
      all_goals
        go_ret
        refine ⟨ret_bool ?_, hB⟩
        rw [Bool.eq_iff_iff, ← hq.1]
        simp
        omega
theorem texts_any (l : List Tr.Gr) (v : Value) (w : World) (hl : l.length ≤ 1048576) (hh : ∀ x ∈ l, x.nd.text.size ≤ 1048576) (ht : GrV w v l) :
    Calls Tryz.prog 72 #[v] w fun e w' => e = .returned (.bool (Tr.differ l)) ∧ Below w.heap.size w w' := by
  rcases ht with ⟨p, c, rfl, rfl⟩ | ⟨g, o, c, rfl, _, h⟩
  · exact texts_nil p c w
  · exact texts_some l g o c w hl hh h
end Go.Proofs.YtfjoecbkagedbaaGreatDoor
