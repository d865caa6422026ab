/- Targets, the specification's side: a record read as a target. -/
import Derived.Test.YtmpjdooepdicoaaGreatDoorYc
namespace Go.Proofs.YtmpjdooepdicoaaGreatDoor.Vl
open Go.RowKit T.atoms T.ok T.high T.good T.allPlain

structure Tg where
  name : ByteArray
  tool : ByteArray
  arg : ByteArray
  ins : List ByteArray
  outs : List ByteArray
def names5 : List ByteArray := [⟨#[97, 114, 103]⟩, ⟨#[105, 110, 115]⟩, ⟨#[110, 97, 109, 101]⟩, ⟨#[111, 117, 116, 115]⟩, ⟨#[116, 111, 111, 108]⟩]
def okN (ks : List T) : Bool := (List.range ks.length).all fun i => decide (i % 2 = 1) || ((ks[i]?.map fun k => memS k.text names5).getD false)
theorem okN_no {ks : List T} {i : Nat} (h : i < ks.length) (h2 : i % 2 = 0) (hm : memS (ks[i]).text names5 = false) : okN ks = false := by
  unfold okN
  rw [List.all_eq_false]
  refine ⟨i, List.mem_range.2 h, ?_⟩
  simp [List.getElem?_eq_getElem h, hm, h2]
theorem okN_yes {ks : List T} (h : ∀ i (h : i < ks.length), i % 2 = 0 → memS (ks[i]).text names5 = true) : okN ks = true := by
  unfold okN
  rw [List.all_eq_true]
  intro i hi
  have hi := List.mem_range.1 hi
  rcases Nat.mod_two_eq_zero_or_one i with h2 | h2
  · simp [List.getElem?_eq_getElem hi, h i hi h2]
  · simp [h2]
def target9 (t : T) : Option Tg :=
  if t.kind = 6 ∧ okN t.ks = true then
    match text9 t.ks ⟨#[110, 97, 109, 101]⟩ true, text9 t.ks ⟨#[116, 111, 111, 108]⟩ true, text9 t.ks ⟨#[97, 114, 103]⟩ false, list9 t.ks ⟨#[105, 110, 115]⟩ false, list9 t.ks ⟨#[111, 117, 116, 115]⟩ true with
    | (a, true), (b, true), (c, true), some d, some e => some ⟨a, b, c, d, e⟩
    | _, _, _, _, _ => none
  else none
/-- Texts that lie behind a place. -/
def StrsH (B : Nat) (w : World) (v : Value) (l : List ByteArray) : Prop := (∃ p c, v = .slice p 0 c ∧ l = []) ∨ ∃ g c, v = .slice (some ⟨g, 0, none⟩) l.length c ∧ (B ≤ g ∧ l.length ≤ c) ∧ StrsO w g 0 l
/-- Texts in a slice that is long enough. -/
def StrsC (w : World) (v : Value) (l : List ByteArray) : Prop := (∃ p c, v = .slice p 0 c ∧ l = []) ∨ ∃ g o c, v = .slice (some ⟨g, o, none⟩) l.length c ∧ l.length ≤ c ∧ StrsO w g o l
/-- What l9Target hands back. -/
def TPost (w : World) (r : Option Tg) (e : Ending) (w' : World) : Prop := Below w.heap.size w w' ∧ ∃ a b c pi ni qi po no qo, e = .returned (.tuple #[.agg #[.string a, .string b, .string c, .slice pi ni qi, .slice po no qo], .bool r.isSome]) ∧ ∀ x, r = some x → a = x.name ∧ b = x.tool ∧ c = x.arg ∧ StrsH w.heap.size w' (.slice pi ni qi) x.ins ∧ StrsH w.heap.size w' (.slice po no qo) x.outs
theorem TPost.no {w w' : World} {a b c : ByteArray} {pi po : Option Addr} {ni qi no qo : Nat} (hb : Below w.heap.size w w') : TPost w none (.returned (.tuple #[.agg #[.string a, .string b, .string c, .slice pi ni qi, .slice po no qo], .bool false])) w' :=
  ⟨hb, a, b, c, pi, ni, qi, po, no, qo, rfl, fun x h => by cases h⟩
/-- l9Target's own boxes: the argument's, the answer's, the variable's. -/
structure TB (w : World) (va : Value) (x : Array Value) (W : World) : Prop where
  B : Below w.heap.size w W
  c : W.cell? ⟨w.heap.size, 0, none⟩ = some va
  y : ∀ j, j < 5 → W.cell? ⟨w.heap.size + 1, j, none⟩ = #[Value.string ⟨#[]⟩, .string ⟨#[]⟩, .string ⟨#[]⟩, .slice none 0 0, .slice none 0 0][j]?
  o : ∀ j, j < 5 → W.cell? ⟨w.heap.size + 1 + 1, j, none⟩ = x[j]?
  g : ∀ j, W.frozen? ⟨w.heap.size + 1, j, none⟩ = false
  f : ∀ j, W.frozen? ⟨w.heap.size + 1 + 1, j, none⟩ = false
  z : w.heap.size + 1 + 1 < W.heap.size
theorem TB.below {w W W' : World} {va : Value} {x : Array Value} (h : TB w va x W) (hb : Below W.heap.size W W') : TB w va x W' := by
  have hz := h.z
  have e : ∀ b o, b ≤ w.heap.size + 1 + 1 → W'.cell? ⟨b, o, none⟩ = W.cell? ⟨b, o, none⟩ := fun b o hb' => hb.cell (p := ⟨b, o, none⟩) (by show b < _; omega)
  have f : ∀ b o, b ≤ w.heap.size + 1 + 1 → W'.frozen? ⟨b, o, none⟩ = W.frozen? ⟨b, o, none⟩ := fun b o hb' => hb.frozen (p := ⟨b, o, none⟩) (by show b < _; omega)
  exact ⟨h.B.trans (hb.mono h.B.size), (e _ _ (by omega)).trans h.c, fun j hj => (e _ _ (by omega)).trans (h.y j hj), fun j hj => (e _ _ (by omega)).trans (h.o j hj), fun j => (f _ _ (by omega)).trans (h.g j), fun j => (f _ _ (by omega)).trans (h.f j), Nat.lt_of_lt_of_le hz hb.size⟩
theorem TB.put {w W : World} {va : Value} {x : Array Value} (h : TB w va x W) (i : Nat) (hi : i < x.size) (v : Value) : TB w va (x.setIfInBounds i v) (W.setCell ⟨w.heap.size + 1 + 1, i, none⟩ v) := by
  have hs : (W.setCell ⟨w.heap.size + 1 + 1, i, none⟩ v).heap.size = W.heap.size := by simp
  have e : ∀ a : Addr, (⟨w.heap.size + 1 + 1, i, none⟩ : Addr) ≠ a → (W.setCell ⟨w.heap.size + 1 + 1, i, none⟩ v).cell? a = W.cell? a := fun a ha => World.cell?_setCell_other _ _ _ _ ha
  refine ⟨h.B.setCell (p := ⟨w.heap.size + 1 + 1, i, none⟩) (by show w.heap.size ≤ w.heap.size + 1 + 1; omega) _, (e _ (by simp)).trans h.c, fun j hj => (e _ (by simp)).trans (h.y j hj), fun j hj => ?_, fun j => by simpa using h.g j, fun j => by simpa using h.f j, by rw [hs]; exact h.z⟩
  by_cases hij : i = j
  · subst hij
    rw [Array.getElem?_setIfInBounds_self_of_lt hi]
    exact World.cell?_setCell_same _ _ _ ((h.o i hj).trans (Array.getElem?_eq_getElem hi))
  · rw [Array.getElem?_setIfInBounds_ne hij]
    exact (e _ (fun h => hij (by injection h))).trans (h.o j hj)
theorem TB.start (w : World) (va x0 x1 x2 x3 x4 : Value) : TB w va #[x0, x1, x2, x3, x4] (((w.alloc (.cells #[va] 45)).alloc (.cells #[.string ⟨#[]⟩, .string ⟨#[]⟩, .string ⟨#[]⟩, .slice none 0 0, .slice none 0 0] 49)).alloc (.cells #[x0, x1, x2, x3, x4] 49)) := by
  have k : ∀ (X : World) (o : Array Value) (t : TypeId) j, (X.alloc (.cells o t)).cell? ⟨X.heap.size, j, none⟩ = o[j]? := fun X o t j => by simp
  have kf : ∀ (X : World) (o : Array Value) (t : TypeId) j, (X.alloc (.cells o t)).frozen? ⟨X.heap.size, j, none⟩ = false := fun X o t j => by simp
  have n1 : ∀ (X : World) (o : Obj) (b j : Nat), b < X.heap.size → (X.alloc o).cell? ⟨b, j, none⟩ = X.cell? ⟨b, j, none⟩ := fun X o b j hb => ((Below.refl X.heap.size X).alloc (Nat.le_refl _) o).cell (p := ⟨b, j, none⟩) hb
  have n2 : ∀ (X : World) (o : Obj) (b j : Nat), b < X.heap.size → (X.alloc o).frozen? ⟨b, j, none⟩ = X.frozen? ⟨b, j, none⟩ := fun X o b j hb => ((Below.refl X.heap.size X).alloc (Nat.le_refl _) o).frozen (p := ⟨b, j, none⟩) hb
  generalize hX : w.alloc (.cells #[va] 45) = X
  have sX : X.heap.size = w.heap.size + 1 := by rw [← hX, World.size_alloc]
  generalize hY : X.alloc (.cells #[.string ⟨#[]⟩, .string ⟨#[]⟩, .string ⟨#[]⟩, .slice none 0 0, .slice none 0 0] 49) = Y
  have sY : Y.heap.size = w.heap.size + 1 + 1 := by rw [← hY, World.size_alloc, sX]
  refine ⟨?_, ?_, fun j hj => ?_, fun j hj => ?_, fun j => ?_, fun j => ?_, by rw [World.size_alloc, sY]; omega⟩
  · rw [← hY, ← hX]; exact (((Below.refl _ _).alloc (Nat.le_refl _) _).alloc (by simp) _).alloc (by simp; omega) _
  · rw [n1 Y _ _ _ (by omega), ← hY, n1 X _ _ _ (by omega), ← hX]; exact k _ _ _ _
  · rw [n1 Y _ _ _ (by omega), ← hY, ← sX]; exact k _ _ _ _
  · rw [← sY]; exact k _ _ _ _
  · rw [n2 Y _ _ _ (by omega), ← hY, ← sX]; exact kf _ _ _ _
  · rw [← sY]; exact kf _ _ _ _
/-- The five cells and the answer's, read off the boxes. -/
theorem TB.all {w W : World} {va x0 x1 x2 x3 x4 : Value} (h : TB w va #[x0, x1, x2, x3, x4] W) :
    (W.cell? ⟨w.heap.size + 1 + 1, 0, none⟩ = some x0 ∧ W.cell? ⟨w.heap.size + 1 + 1, 1, none⟩ = some x1 ∧ W.cell? ⟨w.heap.size + 1 + 1, 2, none⟩ = some x2 ∧ W.cell? ⟨w.heap.size + 1 + 1, 3, none⟩ = some x3 ∧ W.cell? ⟨w.heap.size + 1 + 1, 4, none⟩ = some x4) ∧
    (W.cell? ⟨w.heap.size + 1, 0, none⟩ = some (.string ⟨#[]⟩) ∧ W.cell? ⟨w.heap.size + 1, 1, none⟩ = some (.string ⟨#[]⟩) ∧ W.cell? ⟨w.heap.size + 1, 2, none⟩ = some (.string ⟨#[]⟩) ∧ W.cell? ⟨w.heap.size + 1, 3, none⟩ = some (.slice none 0 0) ∧ W.cell? ⟨w.heap.size + 1, 4, none⟩ = some (.slice none 0 0)) ∧
    (W.frozen? ⟨w.heap.size + 1, 0, none⟩ = false ∧ W.frozen? ⟨w.heap.size + 1, 1, none⟩ = false ∧ W.frozen? ⟨w.heap.size + 1, 2, none⟩ = false ∧ W.frozen? ⟨w.heap.size + 1, 3, none⟩ = false ∧ W.frozen? ⟨w.heap.size + 1, 4, none⟩ = false) :=
  ⟨⟨h.o 0 (by omega), h.o 1 (by omega), h.o 2 (by omega), h.o 3 (by omega), h.o 4 (by omega)⟩, ⟨h.y 0 (by omega), h.y 1 (by omega), h.y 2 (by omega), h.y 3 (by omega), h.y 4 (by omega)⟩, ⟨h.g 0, h.g 1, h.g 2, h.g 3, h.g 4⟩⟩
theorem StrsO.set {w : World} {g o : Nat} {l : List ByteArray} (h : StrsO w g o l) (a : Addr) (hg : g ≠ a.block) (v : Value) : StrsO (w.setCell a v) g o l := h.heap (Below.heap_setCell _ _ _ _ hg)
theorem StrsH.cap {B : Nat} {w : World} {v : Value} {l : List ByteArray} (h : StrsH B w v l) : StrsC w v l := by
  rcases h with h | ⟨g, c, h1, h2, h3⟩
  · exact .inl h
  · exact .inr ⟨g, 0, c, h1, h2.2, h3⟩
theorem StrsH.mono {B B' : Nat} {w : World} {v : Value} {l : List ByteArray} (h : StrsH B w v l) (hB : B' ≤ B) : StrsH B' w v l := by
  rcases h with h | ⟨g, c, h1, h2, h3⟩
  · exact .inl h
  · exact .inr ⟨g, c, h1, ⟨Nat.le_trans hB h2.1, h2.2⟩, h3⟩
theorem StrsH.any {B : Nat} {w : World} {v : Value} {l : List ByteArray} (h : StrsH B w v l) : StrsV w v l := by
  rcases h with h | ⟨g, c, h1, _, h2⟩
  · exact .inl h
  · exact .inr ⟨g, 0, c, h1, h2⟩
theorem StrsH.below {B : Nat} {w w' : World} {v : Value} {l : List ByteArray} (h : StrsH B w v l) (hb : Below w.heap.size w w') : StrsH B w' v l := by
  rcases h with h | ⟨g, c, h1, h2, h3⟩
  · exact .inl h
  · exact .inr ⟨g, c, h1, h2, h3.below hb⟩
theorem StrsH.set {B : Nat} {w : World} {v : Value} {l : List ByteArray} (h : StrsH B w v l) (a : Addr) (ha : a.block < B) (u : Value) : StrsH B (w.setCell a u) v l := by
  rcases h with h | ⟨g, c, h1, h2, h3⟩
  · exact .inl h
  · exact .inr ⟨g, c, h1, h2, h3.set a (by have := h2.1; omega) u⟩
theorem strsH_of_row {w : World} {B base : Nat} {e : TypeId} {p : Option Addr} {n cap : Nat} {l : List ByteArray} (hn : n = l.length) (hB : B ≤ base) (h : w.ownsRow base e 1 (.slice p n cap) n (cellsT l)) : StrsH B w (.slice p n cap) l := by
  subst hn
  rcases h.2 with ⟨h1, h2⟩ | ⟨g, c, _, h1, _⟩
  · simp only [Value.slice.injEq] at h1
    obtain ⟨rfl, h0, rfl⟩ := h1
    rw [h0]
    exact .inl ⟨none, 0, rfl, List.eq_nil_of_length_eq_zero h0⟩
  · cases h1
    exact .inr ⟨g, _, rfl, ⟨Nat.le_trans hB (h.lt g rfl).1, by have := (row_room h).1; omega⟩, strs_of_row h⟩
theorem five_new (X : World) (t : TypeId) : StrsO (X.alloc (.cells #[.string ⟨#[97, 114, 103]⟩, .string ⟨#[105, 110, 115]⟩, .string ⟨#[110, 97, 109, 101]⟩, .string ⟨#[111, 117, 116, 115]⟩, .string ⟨#[116, 111, 111, 108]⟩] t)) X.heap.size 0 names5 := by
  refine ⟨by simp, fun i hi => ?_⟩
  have h5 : names5.length = 5 := rfl
  rw [Nat.zero_add]
  match i, hi with
  | 0, _ => simp [names5]
  | 1, _ => simp [names5]
  | 2, _ => simp [names5]
  | 3, _ => simp [names5]
  | 4, _ => simp [names5]
  | i + 5, hi => omega
set_option maxRecDepth 100000 in
set_option maxHeartbeats 4000000 in
theorem target9_kind (t : T) (g o c m : Nat) (w : World) (hm : t.count = m + 1) (h1 : m < 1000) (ht : AtomsO w g o t.atoms) (hk : t.kind ≠ 6) : Calls Tryz.prog 15 #[.agg #[.slice (some ⟨g, o, none⟩) (m + 1) c]] w (TPost w none) := by
  have HKA := hide (fun w2 (hb : Below w.heap.size w w2) => kind6_any ⟨t.kind, t.num, t.text, t.ks.length⟩ t.atoms g o c m w2 hm (by omega) (atoms_last _ m hm) (ht.below hb))
  have t0 := TB.start w (.slice (some ⟨g, o, none⟩) (m + 1) c) (.string ⟨#[]⟩) (.string ⟨#[]⟩) (.string ⟨#[]⟩) (.slice none 0 0) (.slice none 0 0)
  have T0 := hide t0
  have c0 := t0.c
  clear t0 ht
  have hkn : (t.kind != 6) = true := by simpa using hk
  go_enter Tryz.func15, Tryz.ntmps15
  go_wp2_with fail
  refine (HKA.out _ T0.out.B).mono ?_
  rintro e w1 ⟨rfl, hb1⟩
  have T1 := T0.out.below hb1
  obtain ⟨⟨x0, x1, x2, x3, x4⟩, ⟨y0, y1, y2, y3, y4⟩, ⟨g0, g1, g2, g3, g4⟩⟩ := T1.all
  have HB := hide T1.B
  clear T1 T0 hb1 c0
  go_wp2
  refine bodyPost_ret (v := .tuple #[.agg #[.string ⟨#[]⟩, .string ⟨#[]⟩, .string ⟨#[]⟩, .slice none 0 0, .slice none 0 0], .bool false]) (by simp [results, Tryz.results15, go_sem, y0, y1, y2, y3, y4]) rfl ?_
  refine TPost.no ?_
  iterate 5 (refine Below.setCell ?_ (by show w.heap.size ≤ w.heap.size + 1; omega) _)
  exact HB.out
def five9 (A B C : ByteArray × Bool) (D E : Option (List ByteArray)) : Option Tg := match A, B, C, D, E with
  | (a, true), (b, true), (c, true), some d, some e => some ⟨a, b, c, d, e⟩
  | _, _, _, _, _ => none
set_option maxRecDepth 100000 in
set_option maxHeartbeats 4000000 in
theorem target9_main (t : T) (g o c m : Nat) (w : World) (hm : t.count = m + 1) (h1 : m < 1000) (hc : m + 1 ≤ c) (ht : AtomsO w g o t.atoms) (hk : t.kind = 6) (r : Option Tg) (hr0 : okN t.ks = false → r = none) (hr1 : okN t.ks = true → r = five9 (text9 t.ks ⟨#[110, 97, 109, 101]⟩ true) (text9 t.ks ⟨#[116, 111, 111, 108]⟩ true) (text9 t.ks ⟨#[97, 114, 103]⟩ false) (list9 t.ks ⟨#[105, 110, 115]⟩ false) (list9 t.ks ⟨#[111, 117, 116, 115]⟩ true)) : Calls Tryz.prog 15 #[.agg #[.slice (some ⟨g, o, none⟩) (m + 1) c]] w (TPost w r) := by
  have HR0 := hide hr0
  have HR1 := hide hr1
  have HKA := hide (fun w2 (hb : Below w.heap.size w w2) => kind6_any ⟨t.kind, t.num, t.text, t.ks.length⟩ t.atoms g o c m w2 hm (by omega) (atoms_last _ m hm) (ht.below hb))
  have HKD := hide (fun w2 (hb : Below w.heap.size w w2) => kids5_any t.atoms g o c m w2 hm (by omega) (ht.below hb) hc)
  have HA := hide (fun w2 (hb : Below w.heap.size w w2) => text9_any t ⟨#[110, 97, 109, 101]⟩ true g o c m w2 hm h1 hc (ht.below hb))
  have HB := hide (fun w2 (hb : Below w.heap.size w w2) => text9_any t ⟨#[116, 111, 111, 108]⟩ true g o c m w2 hm h1 hc (ht.below hb))
  have HC := hide (fun w2 (hb : Below w.heap.size w w2) => text9_any t ⟨#[97, 114, 103]⟩ false g o c m w2 hm h1 hc (ht.below hb))
  have HD := hide (fun w2 (hb : Below w.heap.size w w2) => list9_any t ⟨#[105, 110, 115]⟩ false g o c m w2 hm h1 hc (ht.below hb))
  have HE := hide (fun w2 (hb : Below w.heap.size w w2) => list9_any t ⟨#[111, 117, 116, 115]⟩ true g o c m w2 hm h1 hc (ht.below hb))
  clear hr0 hr1
  generalize text9 t.ks ⟨#[110, 97, 109, 101]⟩ true = A at HA HR1
  generalize text9 t.ks ⟨#[116, 111, 111, 108]⟩ true = B at HB HR1
  generalize text9 t.ks ⟨#[97, 114, 103]⟩ false = C at HC HR1
  generalize list9 t.ks ⟨#[105, 110, 115]⟩ false = D at HD HR1
  generalize list9 t.ks ⟨#[111, 117, 116, 115]⟩ true = E at HE HR1
  obtain ⟨a, ba⟩ := A
  obtain ⟨b, bb⟩ := B
  obtain ⟨cc, bc⟩ := C
  simp only at HA HB HC
  have hcnt := T.count_eq t
  have hks : t.ks.length ≤ 1000 := by have := len_le_atomsL t.ks; omega
  have t0 := TB.start w (.slice (some ⟨g, o, none⟩) (m + 1) c) (.string ⟨#[]⟩) (.string ⟨#[]⟩) (.string ⟨#[]⟩) (.slice none 0 0) (.slice none 0 0)
  have T0 := hide t0
  have c0 := t0.c
  clear t0 ht
  have hkn : (t.kind != 6) = false := by simpa using hk
  go_enter Tryz.func15, Tryz.ntmps15
  go_wp2_with fail
  refine (HKA.out _ T0.out.B).mono ?_
  rintro e w1 ⟨rfl, hb1⟩
  have T1 := hide (T0.out.below hb1)
  have c1 := T1.out.c
  clear T0 hb1 c0
  go_wp2_with fail
  refine (HKD.out _ T1.out.B).mono ?_
  rintro e w2 ⟨g7, c7, nk, vs, ok, rfl, ⟨hyes, -⟩, hb2⟩
  obtain ⟨rfl, rfl, hown, hkids⟩ := hyes t (treeOf_atoms t)
  have T2 := hide (T1.out.below hb2)
  have HOA := hide hown
  have HKI := hide hkids
  have hg7 : g7 < w2.heap.size := (hown.lt g7 rfl).2
  clear hyes hown hkids hb2 T1 c1
  go_wp2
  go_loopw [7] (fun q wr => ∃ i : Nat, i ≤ t.ks.length + 1 ∧ i % 2 = 0 ∧ q = .int .i64 i ∧ Below w2.heap.size w2 wr ∧ ∀ j (h : j < t.ks.length), j < i → j % 2 = 0 → memS (t.ks[j]).text names5 = true) (fun q _ => t.ks.length + 2 - (intOf q).toNat)
  case atStart => exact ⟨0, by omega, rfl, rfl, Below.refl _ _, fun j _ h => absurd h (Nat.not_lt_zero _)⟩
  case round =>
    obtain ⟨i, hia, hi2, rfl, hB, hno⟩ := hrel
    have HNO := hide hno
    clear hno
    have T3 := hide (T2.out.below hB)
    by_cases hlt : i < t.ks.length
    · obtain ⟨gx, ox, cx, hvx, hatx, hcx⟩ := HKI.out.2 i hlt
      obtain ⟨mx, hmx⟩ : ∃ mx, (t.ks[i]).count = mx + 1 := ⟨(t.ks[i]).count - 1, by have := atoms_pos t.ks[i]; unfold T.count; omega⟩
      have hsx := count_mem t.ks i hlt
      rw [hmx] at hvx
      have hmx1 : mx < 1000 := by omega
      have HL := hide (fun w' (hb : Below wr.heap.size wr w') => last_any ⟨(t.ks[i]).kind, (t.ks[i]).num, (t.ks[i]).text, (t.ks[i]).ks.length⟩ (t.ks[i]).atoms gx ox cx mx w' hmx (by omega) (atoms_last _ mx hmx) ((hatx.below hB).below hb))
      have r4 : Below wr.heap.size wr (wr.alloc (.cells #[.string ⟨#[97, 114, 103]⟩, .string ⟨#[105, 110, 115]⟩, .string ⟨#[110, 97, 109, 101]⟩, .string ⟨#[111, 117, 116, 115]⟩, .string ⟨#[116, 111, 111, 108]⟩] 9)) := (Below.refl _ _).alloc (Nat.le_refl _) _
      have kx0 := (hB.cell (p := ⟨g7, i, none⟩) hg7).trans ((HOA.out.cellAt i (by omega)).trans hvx)
      have kx := (r4.cell (p := ⟨g7, i, none⟩) (show g7 < wr.heap.size by have := hB.size; omega)).trans kx0
      have HS5 := hide (five_new wr 9)
      have HF := fun w => fld2' (t.ks[i]).kind (t.ks[i]).num (t.ks[i]).ks.length (t.ks[i]).text w
      have HBAD : Hid (memS (t.ks[i]).text names5 = false → okN t.ks = false) := hide (okN_no hlt hi2)
      have HGO : Hid (memS (t.ks[i]).text names5 = true → ∀ j (h : j < t.ks.length), j < i + 2 → j % 2 = 0 → memS (t.ks[j]).text names5 = true) := hide (fun hg j h hj hj2 => by
        by_cases e : j = i
        · subst e; exact hg
        · exact HNO.out j h (by omega) hj2)
      clear hatx hmx hvx kx0
      generalize (t.ks[i]).kind = kk at *
      generalize (t.ks[i]).num = nn at *
      generalize ((t.ks[i]).ks.length : Int) = ll at *
      generalize (t.ks[i]).text = tx at *
      go_wp2_with fail
      refine (HL.out _ r4).mono ?_
      rintro e w5 ⟨rfl, hb5⟩
      have hb5' := r4.trans (hb5.mono r4.size)
      have HS6 := hide (has1_some names5 tx wr.heap.size 0 5 w5 (by decide) (HS5.out.below hb5))
      have T5 := hide (T3.out.below hb5')
      have HB5 := hide (hB.trans (hb5'.mono hB.size))
      cases hq : memS tx names5
      · rw [hq] at HS6
        have HA0 := HBAD.out hq
        obtain ⟨⟨x0, x1, x2, x3, x4⟩, ⟨y0, y1, y2, y3, y4⟩, ⟨g0, g1, g2, g3, g4⟩⟩ := T5.out.all
        go_wp2_with fail
        refine HS6.out.mono ?_
        rintro e w6 ⟨rfl, rfl⟩
        go_wp2
        refine bodyPost_ret (v := .tuple #[.agg #[.string ⟨#[]⟩, .string ⟨#[]⟩, .string ⟨#[]⟩, .slice none 0 0, .slice none 0 0], .bool false]) (by simp [results, Tryz.results15, go_sem, y0, y1, y2, y3, y4]) rfl ?_
        rw [HR0.out HA0]
        refine TPost.no ?_
        iterate 5 (refine Below.setCell ?_ (by show w.heap.size ≤ w.heap.size + 1; omega) _)
        exact T5.out.B
      · rw [hq] at HS6
        go_wp2_with fail
        refine HS6.out.mono ?_
        rintro e w6 ⟨rfl, rfl⟩
        go_wp2
        go_roundw
        case rel => exact ⟨i + 2, by omega, by omega, by go_num, HB5.out, HGO.out hq⟩
        case measure => simp [intOf]; omega
    · have HA0 := okN_yes (fun j h hj => HNO.out j h (by omega) hj)
      have HRR := hide (HR1.out HA0)
      have c3 := T3.out.c
      clear HNO HR1 HR0
      go_wp2_with fail
      refine (HA.out _ T3.out.B).mono ?_
      rintro e w4 ⟨rfl, hb0⟩
      have T0a := T3.out.below hb0
      have o0 := T0a.o 0 (by omega)
      have f0 := T0a.f 0
      simp at o0
      have T4 : Hid (TB w (.slice (some ⟨g, o, none⟩) (m + 1) c) #[.string a, .string ⟨#[]⟩, .string ⟨#[]⟩, .slice none 0 0, .slice none 0 0] (w4.setCell ⟨w.heap.size + 1 + 1, 0, none⟩ (.string a))) := hide (T0a.put 0 (by simp) (.string a))
      have cN0 := T4.out.c
      clear hb0 T0a T3 c3
      go_wp2_with fail
      refine (HB.out _ T4.out.B).mono ?_
      rintro e w5 ⟨rfl, hb1⟩
      have T1a := T4.out.below hb1
      have o1 := T1a.o 1 (by omega)
      have f1 := T1a.f 1
      simp at o1
      have T5 : Hid (TB w (.slice (some ⟨g, o, none⟩) (m + 1) c) #[.string a, .string b, .string ⟨#[]⟩, .slice none 0 0, .slice none 0 0] (w5.setCell ⟨w.heap.size + 1 + 1, 1, none⟩ (.string b))) := hide (T1a.put 1 (by simp) (.string b))
      have cN1 := T5.out.c
      clear hb1 T1a T4 cN0 o0 f0
      go_wp2_with fail
      refine (HC.out _ T5.out.B).mono ?_
      rintro e w6 ⟨rfl, hb2⟩
      have T2a := T5.out.below hb2
      have o2 := T2a.o 2 (by omega)
      have f2 := T2a.f 2
      simp at o2
      have T6 : Hid (TB w (.slice (some ⟨g, o, none⟩) (m + 1) c) #[.string a, .string b, .string cc, .slice none 0 0, .slice none 0 0] (w6.setCell ⟨w.heap.size + 1 + 1, 2, none⟩ (.string cc))) := hide (T2a.put 2 (by simp) (.string cc))
      have cN2 := T6.out.c
      clear hb2 T2a T5 cN1 o1 f1
      go_wp2_with fail
      refine (HD.out _ T6.out.B).mono ?_
      rintro e w7 ⟨hb3, p7, n7, q7, rfl, hd7⟩
      have hz6 := T6.out.z
      have T3a := T6.out.below hb3
      have o3 := T3a.o 3 (by omega)
      have f3 := T3a.f 3
      simp at o3
      have HD7 : Hid (∀ l, D = some l → StrsH (w.heap.size + 1 + 1 + 1) (w7.setCell ⟨w.heap.size + 1 + 1, 3, none⟩ (.slice p7 n7 q7)) (.slice p7 n7 q7) l) := hide (fun l hl => (strsH_of_row (hd7 l hl).1 (by omega) (hd7 l hl).2).set ⟨w.heap.size + 1 + 1, 3, none⟩ (by show w.heap.size + 1 + 1 < _; omega) _)
      have T7 : Hid (TB w (.slice (some ⟨g, o, none⟩) (m + 1) c) #[.string a, .string b, .string cc, .slice p7 n7 q7, .slice none 0 0] (w7.setCell ⟨w.heap.size + 1 + 1, 3, none⟩ (.slice p7 n7 q7))) := hide (T3a.put 3 (by simp) (.slice p7 n7 q7))
      have cN3 := T7.out.c
      clear hb3 T3a T6 cN2 o2 f2 hd7
      go_wp2_with fail
      refine (HE.out _ T7.out.B).mono ?_
      rintro e w8 ⟨hb4, p8, n8, q8, rfl, hd8⟩
      have hz7 := T7.out.z
      have T4a := T7.out.below hb4
      have o4 := T4a.o 4 (by omega)
      have f4 := T4a.f 4
      simp at o4
      have HD8 : Hid (∀ l, D = some l → StrsH (w.heap.size + 1 + 1 + 1) (w8.setCell ⟨w.heap.size + 1 + 1, 4, none⟩ (.slice p8 n8 q8)) (.slice p7 n7 q7) l) := hide (fun l hl => ((HD7.out l hl).below hb4).set ⟨w.heap.size + 1 + 1, 4, none⟩ (by show w.heap.size + 1 + 1 < _; omega) _)
      have HE8 : Hid (∀ l, E = some l → StrsH (w.heap.size + 1 + 1 + 1) (w8.setCell ⟨w.heap.size + 1 + 1, 4, none⟩ (.slice p8 n8 q8)) (.slice p8 n8 q8) l) := hide (fun l hl => (strsH_of_row (hd8 l hl).1 (by omega) (hd8 l hl).2).set ⟨w.heap.size + 1 + 1, 4, none⟩ (by show w.heap.size + 1 + 1 < _; omega) _)
      have T8 : Hid (TB w (.slice (some ⟨g, o, none⟩) (m + 1) c) #[.string a, .string b, .string cc, .slice p7 n7 q7, .slice p8 n8 q8] (w8.setCell ⟨w.heap.size + 1 + 1, 4, none⟩ (.slice p8 n8 q8))) := hide (T4a.put 4 (by simp) (.slice p8 n8 q8))
      clear hb4 T4a T7 cN3 o3 f3 hd8 HD7
      obtain ⟨⟨x0, x1, x2, x3, x4⟩, ⟨y0, y1, y2, y3, y4⟩, ⟨g0, g1, g2, g3, g4⟩⟩ := T8.out.all
      cases ba
      · skip
        go_wp2
        refine bodyPost_ret (v := .tuple #[.agg #[.string a, .string b, .string cc, .slice p7 n7 q7, .slice p8 n8 q8], .bool false]) (by simp [results, Tryz.results15, go_sem, y0, y1, y2, y3, y4]) rfl ?_
        rw [show r = none from HRR.out]
        refine TPost.no ?_
        iterate 5 (refine Below.setCell ?_ (by show w.heap.size ≤ w.heap.size + 1; omega) _)
        exact T8.out.B
      · cases bb
        · skip
          go_wp2
          refine bodyPost_ret (v := .tuple #[.agg #[.string a, .string b, .string cc, .slice p7 n7 q7, .slice p8 n8 q8], .bool false]) (by simp [results, Tryz.results15, go_sem, y0, y1, y2, y3, y4]) rfl ?_
          rw [show r = none from HRR.out]
          refine TPost.no ?_
          iterate 5 (refine Below.setCell ?_ (by show w.heap.size ≤ w.heap.size + 1; omega) _)
          exact T8.out.B
        · cases bc
          · skip
            go_wp2
            refine bodyPost_ret (v := .tuple #[.agg #[.string a, .string b, .string cc, .slice p7 n7 q7, .slice p8 n8 q8], .bool false]) (by simp [results, Tryz.results15, go_sem, y0, y1, y2, y3, y4]) rfl ?_
            rw [show r = none from HRR.out]
            refine TPost.no ?_
            iterate 5 (refine Below.setCell ?_ (by show w.heap.size ≤ w.heap.size + 1; omega) _)
            exact T8.out.B
          · cases D with
            | none =>
              go_wp2
              refine bodyPost_ret (v := .tuple #[.agg #[.string a, .string b, .string cc, .slice p7 n7 q7, .slice p8 n8 q8], .bool false]) (by simp [results, Tryz.results15, go_sem, y0, y1, y2, y3, y4]) rfl ?_
              rw [show r = none from HRR.out]
              refine TPost.no ?_
              iterate 5 (refine Below.setCell ?_ (by show w.heap.size ≤ w.heap.size + 1; omega) _)
              exact T8.out.B
            | some d =>
              cases E with
              | none =>
                go_wp2
                refine bodyPost_ret (v := .tuple #[.agg #[.string a, .string b, .string cc, .slice p7 n7 q7, .slice p8 n8 q8], .bool false]) (by simp [results, Tryz.results15, go_sem, y0, y1, y2, y3, y4]) rfl ?_
                rw [show r = none from HRR.out]
                refine TPost.no ?_
                iterate 5 (refine Below.setCell ?_ (by show w.heap.size ≤ w.heap.size + 1; omega) _)
                exact T8.out.B
              | some e' =>
                go_wp2
                refine bodyPost_ret (v := .tuple #[.agg #[.string a, .string b, .string cc, .slice p7 n7 q7, .slice p8 n8 q8], .bool true]) (by simp [results, Tryz.results15, go_sem, y0, y1, y2, y3, y4]) rfl ?_
                rw [show r = some ⟨a, b, cc, d, e'⟩ from HRR.out]
                refine ⟨?_, a, b, cc, _, _, _, _, _, _, rfl, fun x h => ?_⟩
                · iterate 5 (refine Below.setCell ?_ (by show w.heap.size ≤ w.heap.size + 1; omega) _)
                  exact T8.out.B
                · cases h
                  refine ⟨rfl, rfl, rfl, ?_, ?_⟩
                  · refine StrsH.mono (B := w.heap.size + 1 + 1 + 1) ?_ (by omega)
                    iterate 5 (refine StrsH.set ?_ _ (by show w.heap.size + 1 < _; omega) _)
                    exact HD8.out _ rfl
                  · refine StrsH.mono (B := w.heap.size + 1 + 1 + 1) ?_ (by omega)
                    iterate 5 (refine StrsH.set ?_ _ (by show w.heap.size + 1 < _; omega) _)
                    exact HE8.out _ rfl
theorem target9_any (t : T) (g o c m : Nat) (w : World) (hm : t.count = m + 1) (h1 : m < 1000) (hc : m + 1 ≤ c) (ht : AtomsO w g o t.atoms) : Calls Tryz.prog 15 #[.agg #[.slice (some ⟨g, o, none⟩) (m + 1) c]] w (TPost w (target9 t)) := by
  unfold target9
  by_cases hk : t.kind = 6
  · by_cases hn : okN t.ks = true
    · refine target9_main t g o c m w hm h1 hc ht hk _ (fun h => by rw [hn] at h; cases h) (fun _ => ?_)
      rw [if_pos ⟨hk, hn⟩]
      rfl
    · refine target9_main t g o c m w hm h1 hc ht hk _ (fun _ => if_neg (fun h => hn h.2)) (fun h => absurd h hn)
  · rw [if_neg (fun h => hk h.1)]
    exact target9_kind t g o c m w hm h1 ht hk
end Go.Proofs.YtmpjdooepdicoaaGreatDoor.Vl
