/- Targets, the specification's side: rows of texts that lie apart. -/
import Derived.Test.YtmpjdooepdicoaaGreatDoorYg
namespace Go.Proofs.YtmpjdooepdicoaaGreatDoor.Vl
open Go.RowKit T.atoms T.ok T.high T.good T.allPlain

/-- Two values that do not own one block. -/
def Apart (r s : Value × List ByteArray) : Prop := ∀ b, r.1.ownBlock = some b → s.1.ownBlock ≠ some b
theorem Apart.symm {r s : Value × List ByteArray} (h : Apart r s) : Apart s r := fun b h1 h2 => h b h2 h1
/-- Rows of texts of one's own, no two of them in one block. -/
structure SR (B : Nat) (R : List (Value × List ByteArray)) (W : World) : Prop where
  own : ∀ r ∈ R, W.ownsRow B 9 1 r.1 r.2.length (cellsT r.2)
  sep : R.Pairwise Apart
theorem own_lt {W : World} {B : Nat} {e : TypeId} {size n : Nat} {v : Value} {xs : List Value} (h : W.ownsRow B e size v n xs) {b : Nat} (hb : v.ownBlock = some b) : B ≤ b ∧ b < W.heap.size := h.lt b hb
theorem SR.nil (B : Nat) (W : World) : SR B [] W := ⟨fun _ h => absurd h (List.not_mem_nil), List.Pairwise.nil⟩
theorem SR.below {B : Nat} {R : List (Value × List ByteArray)} {W W' : World} (h : SR B R W) (hb : Below W.heap.size W W') : SR B R W' := ⟨fun r hr => row_belowY (h.own r hr) hb, h.sep⟩
theorem SR.perm {B : Nat} {R R' : List (Value × List ByteArray)} {W : World} (h : SR B R W) (hp : R.Perm R') : SR B R' W := ⟨fun r hr => h.own r (hp.mem_iff.2 hr), (hp.pairwise_iff (fun h => h.symm)).1 h.sep⟩
theorem SR.tail {B : Nat} {r : Value × List ByteArray} {R : List (Value × List ByteArray)} {W : World} (h : SR B (r :: R) W) : SR B R W := ⟨fun s hs => h.own s (List.mem_cons_of_mem _ hs), (List.pairwise_cons.1 h.sep).2⟩
theorem row_keptY {w w1 : World} {base : Nat} {e : TypeId} {size : Nat} {v : Value} {n : Nat} {xs : List Value} {row : Option Nat} (h : w.ownsRow base e size v n xs) (hg : w.grownBy w1 row) (hr : ∀ b, v.ownBlock = some b → row ≠ some b) : w1.ownsRow base e size v n xs :=
  h.kept hg (by
    cases hv : v.ownBlock with
    | none => exact .inl rfl
    | some q => exact .inr (fun e => hr q hv e.symm))
/-- The first row has grown. -/
theorem SR.grow {B : Nat} {v v' : Value} {l l' : List ByteArray} {R : List (Value × List ByteArray)} {W W' : World} (h : SR B ((v, l) :: R) W) (hg : W.grownBy W' v.ownBlock) (ho : W'.ownsRow B 9 1 v' l'.length (cellsT l')) (hb : v'.ownBlock = v.ownBlock ∨ v'.ownBlock = some W.heap.size) : SR B ((v', l') :: R) W' := by
  have hs := List.pairwise_cons.1 h.sep
  refine ⟨fun r hr => ?_, List.pairwise_cons.2 ⟨fun s hs' b hv' hsb => ?_, hs.2⟩⟩
  · rcases List.mem_cons.1 hr with rfl | hr
    · exact ho
    · exact row_keptY (h.own r (List.mem_cons_of_mem _ hr)) hg (fun b hb2 hv => hs.1 r hr b hv hb2)
  · rcases hb with e | e
    · rw [e] at hv'
      exact hs.1 s hs' b hv' hsb
    · rw [e] at hv'
      cases hv'
      have := (own_lt (h.own s (List.mem_cons_of_mem _ hs')) hsb).2
      omega
/-- A new row. -/
theorem SR.new {B : Nat} {v : Value} {l : List ByteArray} {R : List (Value × List ByteArray)} {W W' : World} (h : SR B R W) (hb : Below W.heap.size W W') (ho : W'.ownsRow W.heap.size 9 1 v l.length (cellsT l)) (hB : B ≤ W.heap.size) : SR B ((v, l) :: R) W' := by
  refine ⟨fun r hr => ?_, List.pairwise_cons.2 ⟨fun s hs b hv hsb => ?_, h.sep⟩⟩
  · rcases List.mem_cons.1 hr with rfl | hr
    · exact row_mono ho hB
    · exact row_belowY (h.own r hr) hb
  · have h1 := (own_lt ho hv).1
    have h2 := (own_lt (h.own s hs) hsb).2
    omega
/-- A row of another type has grown. -/
theorem own_cells {W : World} {B : Nat} {e : TypeId} {size n : Nat} {v : Value} {xs : List Value} (h : W.ownsRow B e size v n xs) {b : Nat} (hb : v.ownBlock = some b) : ∃ cs fr, W.heap[b]? = some (.cells cs e fr) := by
  rcases h.2 with ⟨h1, _⟩ | ⟨g, cap, cur, h1, h2, h3, _⟩
  · rw [h1] at hb; cases hb
  · rw [h1] at hb
    cases hb
    exact ⟨_, _, h3⟩
theorem SR.other {B : Nat} {R : List (Value × List ByteArray)} {W W' : World} {row : Option Nat} {e : TypeId} (h : SR B R W) (hg : W.grownBy W' row) (hr : ∀ b, row = some b → ∃ cs fr, W.heap[b]? = some (.cells cs e fr)) (he : e ≠ 9) : SR B R W' :=
  ⟨fun r hr' => row_keptY (h.own r hr') hg (fun b hb hb2 => by
    obtain ⟨cs, fr, h1⟩ := own_cells (h.own r hr') hb
    obtain ⟨cs', fr', h2⟩ := hr b hb2
    rw [h1] at h2
    injection h2 with h2
    injection h2 with _ h3 _
    exact he h3.symm), h.sep⟩

/-- What was told. -/
structure Td where
  fr : ByteArray
  at_ : List At
def TdsO (w : World) (g : Nat) (l : List Td) : Prop := g < w.heap.size ∧ ∀ i (h : i < l.length), w.cell? ⟨g, i * 2, none⟩ = some (.string l[i].fr) ∧ ∃ gi, w.cell? ⟨g, i * 2 + 1, none⟩ = some (.slice (some ⟨gi, 0, none⟩) l[i].at_.length l[i].at_.length) ∧ AtomsO w gi 0 l[i].at_
theorem TdsO.below {w w' : World} {g : Nat} {l : List Td} (h : TdsO w g l) (hb : Below w.heap.size w w') : TdsO w' g l := by
  refine ⟨Nat.lt_of_lt_of_le h.1 hb.size, fun i hi => ?_⟩
  obtain ⟨h1, gi, h2, h3⟩ := h.2 i hi
  exact ⟨(hb.cell (p := ⟨g, i * 2, none⟩) h.1).trans h1, gi, (hb.cell (p := ⟨g, i * 2 + 1, none⟩) h.1).trans h2, h3.below hb⟩
/-- Targets as the specification reads them: one by one. -/
def outsBad (outs l : List ByteArray) : Bool := (List.range l.length).any fun k => (l[k]?.map fun x => memS x outs || memS x (l.take k)).getD false
theorem outsBad_yes {outs l : List ByteArray} {i : Nat} (h : i < l.length) (hm : (memS l[i] outs || memS l[i] (l.take i)) = true) : outsBad outs l = true := by
  unfold outsBad
  rw [List.any_eq_true]
  exact ⟨i, List.mem_range.2 h, by simpa [List.getElem?_eq_getElem h] using hm⟩
theorem outsBad_no {outs l : List ByteArray} (h : ∀ i (h : i < l.length), memS l[i] outs = false ∧ memS l[i] (l.take i) = false) : outsBad outs l = false := by
  unfold outsBad
  rw [List.any_eq_false]
  intro i hi
  have hi := List.mem_range.1 hi
  have := h i hi
  simp [List.getElem?_eq_getElem hi, this.1, this.2]
def readA (a : List At) : Option (Option Tg) := if valid a = true then (match treeOf a with | some t => some (target9 t) | none => some none) else none
def step9 (names outs : List ByteArray) (a : List At) : Int × Option Tg := match readA a with
  | none => (1, none)
  | some none => (2, none)
  | some (some x) => if memS x.name names = true then (3, none) else if outsBad outs x.outs = true then (4, none) else if twice x.ins = true then (5, none) else (0, some x)
def Tg.srt (x : Tg) : Tg := ⟨x.name, x.tool, x.arg, sortS x.ins, sortS x.outs⟩
/-- Code, place, names, targets. -/
def go9 : List Td → Int → List ByteArray → List ByteArray → List Tg → Int × Int × List ByteArray × List Tg
  | [], _, ns, _, ts => (0, 0, ns, ts)
  | d :: r, at_, ns, os, ts => match step9 ns os d.at_ with
    | (_, some x) => go9 r (at_ + 1) (ns ++ [x.name]) (os ++ x.outs) (ts ++ [x.srt])
    | (k, none) => (k, at_, [], [])
def picked (ns : List ByteArray) (ts : List Tg) : List Tg := (sortS ns).flatMap fun s => ts.filter fun x => decide (x.name = s)
def plan9 (l : List Td) : Int × Int × List Tg := match go9 l 0 [] [] [] with
  | (k, at_, ns, ts) => (k, at_, picked ns ts)
end Go.Proofs.YtmpjdooepdicoaaGreatDoor.Vl
