/- What fits, on the specification's side: lists, and what lies in memory while a tree is gone through. -/
import Derived.Test.YtmklgiononbmmaaDoorVh
import Derived.Deep.RegionLaw
namespace Go.Proofs.YtmklgiononbmmaaDoor
open Go.RowKit

abbrev Tr.Kn := ByteArray × Nat
structure Tr.St where
  codes : List Int
  binds : List Int
def Tr.faultS (k : Nat) (c : Int) (s : Tr.St) : Tr.St := if s.codes[k]?.getD 0 = 0 ∨ c < s.codes[k]?.getD 0 then { s with codes := s.codes.set k c } else s
def Tr.textOf (ns : List Tr.Nd) (k : Nat) : ByteArray := (ns[k]?.map (·.text)).getD ⟨#[]⟩
/-- The last of the known names with a text. -/
def Tr.lookK (x : ByteArray) : List Tr.Kn → Option Nat
  | [] => none
  | p :: r => match Tr.lookK x r with
    | some a => some a
    | none => if p.1 = x then some p.2 else none
def Tr.builts : List (List UInt8) := [[98, 101, 103, 105, 110, 115], [99, 117, 116], [102, 97, 105, 108], [102, 105, 108, 101, 115], [105, 110, 116], [106, 111, 105, 110], [107, 101, 121, 115], [108, 101, 110], [114, 97, 110, 103, 101], [114, 101, 99, 111, 114, 100], [115, 111, 114, 116, 101, 100], [115, 112, 108, 105, 116], [116, 101, 120, 116], [117, 110, 105, 113, 117, 101], [119, 105, 116, 104, 111, 117, 116]]
def Tr.useS (ns : List Tr.Nd) (k : Nat) (kn : List Tr.Kn) (s : Tr.St) : Tr.St := match Tr.lookK (Tr.textOf ns k) kn with
  | some a => { s with binds := s.binds.set k a }
  | none => if (Tr.textOf ns k).data.toList ∈ Tr.builts then { s with binds := s.binds.set k (-2) } else Tr.faultS k 9 s
def Tr.kidsOf (ks : List (List Nat)) (k : Nat) : List Nat := ks[k]?.getD []
/-- Params that have one name with one ahead of them. -/
def Tr.dupS (ns : List Tr.Nd) (p : Nat) (seen : List Nat) (s : Tr.St) : Tr.St := seen.foldl (fun s x => if Tr.textOf ns x = Tr.textOf ns p then Tr.faultS p 8 s else s) s
def Tr.parS (G : Nat → List Tr.Kn → Tr.St → Tr.St) (ns : List Tr.Nd) (ks : List (List Nat)) (p : Nat) (seen : List Nat) (kn : List Tr.Kn) (df : Bool) (s : Tr.St) : Tr.St := match Tr.kidsOf ks p with
  | [] => if df = true then Tr.faultS p 10 (Tr.dupS ns p seen s) else Tr.dupS ns p seen s
  | c :: _ => G c kn (Tr.dupS ns p seen s)
def Tr.fnS (G : Nat → List Tr.Kn → Tr.St → Tr.St) (ns : List Tr.Nd) (ks : List (List Nat)) : List Nat → List Nat → List Tr.Kn → Bool → Tr.St → Tr.St
  | [], _, _, _, s => s
  | [x], _, kn, _, s => G x kn s
  | p :: q :: r, seen, kn, df, s =>
    Tr.fnS G ns ks (q :: r) (seen ++ [p]) (kn ++ [(Tr.textOf ns p, p)]) (df || !decide ((Tr.kidsOf ks p).length = 0)) (Tr.parS G ns ks p seen kn df s)
def Tr.letS (G : Nat → List Tr.Kn → Tr.St → Tr.St) (kn more : List Tr.Kn) (s : Tr.St) : List Nat → Tr.St
  | [] => s
  | x :: r => r.foldl (fun s y => G y more s) (G x kn s)
def Tr.go1 (ns : List Tr.Nd) (ks : List (List Nat)) : Nat → Nat → List Tr.Kn → Tr.St → Tr.St
  | 0, _, _, s => s
  | f + 1, k, kn, s =>
    if Tr.kindOf ns k = 5 then Tr.useS ns k kn s
    else if Tr.kindOf ns k = 23 then s
    else if Tr.kindOf ns k = 15 ∨ Tr.kindOf ns k = 20 then Tr.fnS (Tr.go1 ns ks f) ns ks (Tr.kidsOf ks k) [] kn false s
    else if Tr.kindOf ns k = 14 ∨ Tr.kindOf ns k = 16 then Tr.letS (Tr.go1 ns ks f) kn (kn ++ [(Tr.textOf ns k, k)]) s (Tr.kidsOf ks k)
    else (Tr.kidsOf ks k).foldl (fun s y => Tr.go1 ns ks f y kn s) s

/-- All but two blocks stay as they are. -/
structure Kp (cg bg : Nat) (w w' : World) : Prop where
  os : w'.os = w.os
  tape : w'.tape = w.tape
  output : w'.output = w.output
  size : w.heap.size ≤ w'.heap.size
  block : ∀ b, b < w.heap.size → b ≠ cg → b ≠ bg → w'.heap[b]? = w.heap[b]?
theorem Kp.refl (cg bg : Nat) (w : World) : Kp cg bg w w := ⟨rfl, rfl, rfl, Nat.le_refl _, fun _ _ _ _ => rfl⟩
theorem Kp.trans {cg bg : Nat} {w w' w'' : World} (h : Kp cg bg w w') (h' : Kp cg bg w' w'') : Kp cg bg w w'' :=
  ⟨h'.os.trans h.os, h'.tape.trans h.tape, h'.output.trans h.output, Nat.le_trans h.size h'.size, fun b hb h1 h2 => (h'.block b (Nat.lt_of_lt_of_le hb h.size) h1 h2).trans (h.block b hb h1 h2)⟩
theorem Kp.of_below {cg bg : Nat} {w w' : World} (h : Below w.heap.size w w') : Kp cg bg w w' := ⟨h.os, h.tape, h.output, h.size, fun b hb _ _ => h.block b hb⟩
theorem Kp.below {cg bg : Nat} {w w' w'' : World} (h : Kp cg bg w w') (h' : Below w'.heap.size w' w'') : Kp cg bg w w'' := h.trans (.of_below h')
theorem Kp.alloc {cg bg : Nat} {w w' : World} (h : Kp cg bg w w') (o : Obj) : Kp cg bg w (w'.alloc o) := h.below ((Below.refl _ _).alloc (Nat.le_refl _) o)
theorem Kp.drew {cg bg : Nat} {w w' : World} (h : Kp cg bg w w') : Kp cg bg w w'.drew := h.below (Below.refl _ _).drew
theorem Kp.setCell {cg bg : Nat} {w w' : World} (h : Kp cg bg w w') (a : Addr) (v : Value) (ha : a.block = cg ∨ a.block = bg) : Kp cg bg w (w'.setCell a v) :=
  h.trans ⟨rfl, rfl, rfl, by simp, fun b _ h1 h2 => Below.heap_setCell _ _ _ _ (by omega)⟩
theorem Kp.cell {cg bg : Nat} {w w' : World} (h : Kp cg bg w w') {p : Addr} (hp : p.block < w.heap.size) (h1 : p.block ≠ cg) (h2 : p.block ≠ bg) : w'.cell? p = w.cell? p := World.cell?_of_block (h.block p.block hp h1 h2)

/-- Known names lie in a block, two cells each. -/
def KnAt (w : World) (g : Nat) (kn : List Tr.Kn) : Prop := g < w.heap.size ∧ ∀ j (h : j < kn.length), w.cell? ⟨g, j * 2, none⟩ = some (.string kn[j].1) ∧ w.cell? ⟨g, j * 2 + 1, none⟩ = some (.int .i64 kn[j].2)
theorem KnAt.kept {cg bg : Nat} {w w' : World} {g : Nat} {kn : List Tr.Kn} (h : KnAt w g kn) (hk : Kp cg bg w w') (h1 : g ≠ cg) (h2 : g ≠ bg) : KnAt w' g kn :=
  ⟨Nat.lt_of_lt_of_le h.1 hk.size, fun j hj => ⟨(hk.cell (p := ⟨g, j * 2, none⟩) h.1 h1 h2).trans (h.2 j hj).1, (hk.cell (p := ⟨g, j * 2 + 1, none⟩) h.1 h1 h2).trans (h.2 j hj).2⟩⟩
def Tr.knCells (kn : List Tr.Kn) : List Value := kn.flatMap fun p => [.string p.1, .int .i64 p.2]
theorem Tr.knCells_len (kn : List Tr.Kn) : (Tr.knCells kn).length = kn.length * 2 := by
  induction kn with
  | nil => rfl
  | cons x r ih => rw [show Tr.knCells (x :: r) = [.string x.1, .int .i64 x.2] ++ Tr.knCells r from rfl, List.length_append, ih, List.length_cons]; simp; omega
theorem Tr.knCells_at (kn : List Tr.Kn) (i : Nat) (h : i < kn.length) : (Tr.knCells kn)[i * 2]? = some (.string kn[i].1) ∧ (Tr.knCells kn)[i * 2 + 1]? = some (.int .i64 kn[i].2) := by
  induction kn generalizing i with
  | nil => simp at h
  | cons x r ih =>
    rw [show Tr.knCells (x :: r) = [.string x.1, .int .i64 x.2] ++ Tr.knCells r from rfl]
    match i, h with
    | 0, _ => simp
    | i + 1, h =>
      have := ih i (by simpa using h)
      refine ⟨?_, ?_⟩
      all_goals rw [List.getElem?_append_right (by simp; omega)]
      · rw [show (i + 1) * 2 - ([.string x.1, .int .i64 x.2] : List Value).length = i * 2 from by simp; omega]; exact this.1
      · rw [show (i + 1) * 2 + 1 - ([.string x.1, .int .i64 x.2] : List Value).length = i * 2 + 1 from by simp; omega]; exact this.2
theorem kn_of_row {w : World} {base : Nat} {e : TypeId} {g cap : Nat} {kn : List Tr.Kn} (h : w.ownsRow base e 2 (.slice (some ⟨g, 0, none⟩) kn.length cap) kn.length (Tr.knCells kn)) : KnAt w g kn := by
  refine ⟨(row_room h).2.2, fun i hi => ?_⟩
  obtain ⟨p0, p1⟩ := Tr.knCells_at kn i hi
  exact ⟨(h.cellAt (i * 2) (by omega)).trans p0, (h.cellAt (i * 2 + 1) (by omega)).trans p1⟩
theorem Tr.knCells_one (kn : List Tr.Kn) : ∀ u ∈ Tr.knCells kn, u.oneCell' = true := by
  intro u hu
  obtain ⟨p, _, hp⟩ := List.mem_flatMap.1 hu
  simp only [List.mem_cons, List.not_mem_nil, or_false] at hp
  rcases hp with rfl | rfl <;> rfl
theorem kn_news {w : World} {g : Nat} {kn : List Tr.Kn} (h : KnAt w g kn) : ∀ j u, (Tr.knCells kn)[j]? = some u → w.cell? ((⟨g, 0, none⟩ : Addr).add j) = some u := by
  intro j u hu
  have hj : j < kn.length * 2 := by have := (List.getElem?_eq_some_iff.1 hu).1; rwa [Tr.knCells_len] at this
  rw [add_plain, Nat.zero_add]
  rcases Nat.mod_two_eq_zero_or_one j with h2 | h2
  · obtain ⟨i, rfl⟩ : ∃ i, j = i * 2 := ⟨j / 2, by omega⟩
    rw [(h.2 i (by omega)).1, ← hu]; exact (Tr.knCells_at kn i (by omega)).1.symm
  · obtain ⟨i, rfl⟩ : ∃ i, j = i * 2 + 1 := ⟨j / 2, by omega⟩
    rw [(h.2 i (by omega)).2, ← hu]; exact (Tr.knCells_at kn i (by omega)).2.symm

/-- What does not change while a tree is gone through: the walk's own four fields, the nodes, the kids. -/
structure Fx (ns : List Tr.Nd) (ks : List (List Nat)) (wb tg tc kg kc cg bg : Nat) (w : World) : Prop where
  wb1 : wb ≠ cg
  wb2 : wb ≠ bg
  tg1 : tg ≠ cg
  tg2 : tg ≠ bg
  kg1 : kg ≠ cg
  kg2 : kg ≠ bg
  wlt : wb < w.heap.size
  klt : kg < w.heap.size
  f0 : w.cell? ⟨wb, 0, none⟩ = some (.slice (some ⟨tg, 0, none⟩) ns.length tc)
  f1 : w.cell? ⟨wb, 1, none⟩ = some (.slice (some ⟨kg, 0, none⟩) ns.length kc)
  f2 : w.cell? ⟨wb, 2, none⟩ = some (.slice (some ⟨cg, 0, none⟩) ns.length ns.length)
  f3 : w.cell? ⟨wb, 3, none⟩ = some (.slice (some ⟨bg, 0, none⟩) ns.length ns.length)
  nodes : NodesAt w tg ns
  len : ks.length = ns.length
  kids : ∀ k (h : k < ks.length), ∃ g c, w.cell? ⟨kg, k, none⟩ = some (.slice (some ⟨g, 0, none⟩) (ks[k]).length c) ∧ g ≠ cg ∧ g ≠ bg ∧ IntsAt w g 0 ks[k]
theorem Fx.kept {ns : List Tr.Nd} {ks : List (List Nat)} {wb tg tc kg kc cg bg : Nat} {w w' : World} (h : Fx ns ks wb tg tc kg kc cg bg w) (hk : Kp cg bg w w') : Fx ns ks wb tg tc kg kc cg bg w' := by
  refine ⟨h.wb1, h.wb2, h.tg1, h.tg2, h.kg1, h.kg2, Nat.lt_of_lt_of_le h.wlt hk.size, Nat.lt_of_lt_of_le h.klt hk.size, ?_, ?_, ?_, ?_, ?_, h.len, ?_⟩
  · exact (hk.cell (p := ⟨wb, 0, none⟩) h.wlt h.wb1 h.wb2).trans h.f0
  · exact (hk.cell (p := ⟨wb, 1, none⟩) h.wlt h.wb1 h.wb2).trans h.f1
  · exact (hk.cell (p := ⟨wb, 2, none⟩) h.wlt h.wb1 h.wb2).trans h.f2
  · exact (hk.cell (p := ⟨wb, 3, none⟩) h.wlt h.wb1 h.wb2).trans h.f3
  · refine ⟨Nat.lt_of_lt_of_le h.nodes.1 hk.size, fun i hi => ?_⟩
    obtain ⟨a, b, c, d, e⟩ := h.nodes.2 i hi
    exact ⟨(hk.cell (p := ⟨tg, i * 5, none⟩) h.nodes.1 h.tg1 h.tg2).trans a, (hk.cell (p := ⟨tg, i * 5 + 1, none⟩) h.nodes.1 h.tg1 h.tg2).trans b, (hk.cell (p := ⟨tg, i * 5 + 2, none⟩) h.nodes.1 h.tg1 h.tg2).trans c, (hk.cell (p := ⟨tg, i * 5 + 3, none⟩) h.nodes.1 h.tg1 h.tg2).trans d, (hk.cell (p := ⟨tg, i * 5 + 4, none⟩) h.nodes.1 h.tg1 h.tg2).trans e⟩
  · intro k hkl
    obtain ⟨g, c, a, b, d, e⟩ := h.kids k hkl
    exact ⟨g, c, (hk.cell (p := ⟨kg, k, none⟩) h.klt h.kg1 h.kg2).trans a, b, d, Nat.lt_of_lt_of_le e.1 hk.size, fun j hj => (hk.cell (p := ⟨g, 0 + j, none⟩) e.1 b d).trans (e.2 j hj)⟩
def vi (x : Int) : Value := .int .i64 x
/-- What changes: the codes and the binds. -/
structure Dy (n cg bg : Nat) (s : Tr.St) (w : World) : Prop where
  ne : cg ≠ bg
  c : w.ownsRow 0 3 1 (.slice (some ⟨cg, 0, none⟩) n n) n (s.codes.map vi)
  b : w.ownsRow 0 3 1 (.slice (some ⟨bg, 0, none⟩) n n) n (s.binds.map vi)
theorem Dy.lens {n cg bg : Nat} {s : Tr.St} {w : World} (h : Dy n cg bg s w) : s.codes.length = n ∧ s.binds.length = n := by
  have h1 := h.c.1
  have h2 := h.b.1
  simp at h1 h2
  exact ⟨h1, h2⟩
theorem row_same {w w' : World} {base size : Nat} {e : TypeId} {g n cap : Nat} {xs : List Value} (h : w.ownsRow base e size (.slice (some ⟨g, 0, none⟩) n cap) n xs) (hb : w'.heap[g]? = w.heap[g]?) : w'.ownsRow base e size (.slice (some ⟨g, 0, none⟩) n cap) n xs := by
  refine ⟨h.1, ?_⟩
  rcases h.2 with ⟨h1, _⟩ | ⟨g', cap', cur, hv, h2, h3, h4⟩
  · cases h1
  · cases hv
    exact .inr ⟨g, cap, cur, rfl, h2, hb.trans h3, h4⟩
theorem Dy.below {n cg bg : Nat} {s : Tr.St} {w w' : World} (h : Dy n cg bg s w) (hb : Below w.heap.size w w') : Dy n cg bg s w' :=
  ⟨h.ne, row_same h.c (hb.block cg (h.c.lt cg rfl).2), row_same h.b (hb.block bg (h.b.lt bg rfl).2)⟩
theorem Dy.setC {n cg bg : Nat} {s : Tr.St} {w : World} (h : Dy n cg bg s w) (k : Nat) (v : Int) : Dy n cg bg { s with codes := s.codes.set k v } (w.setCell ⟨cg, k, none⟩ (.int .i64 v)) := by
  refine ⟨h.ne, ?_, row_same h.b (Below.heap_setCell _ _ _ _ (by simpa using h.ne.symm))⟩
  have := (h.c.stored k (.int .i64 v)).1
  rw [show (s.codes.set k v).map vi = (s.codes.map vi).set k (.int .i64 v) from by rw [List.map_set]; rfl]
  exact this
theorem Dy.setB {n cg bg : Nat} {s : Tr.St} {w : World} (h : Dy n cg bg s w) (k : Nat) (v : Int) : Dy n cg bg { s with binds := s.binds.set k v } (w.setCell ⟨bg, k, none⟩ (.int .i64 v)) := by
  refine ⟨h.ne, row_same h.c (Below.heap_setCell _ _ _ _ (by simpa using h.ne)), ?_⟩
  have := (h.b.stored k (.int .i64 v)).1
  rw [show (s.binds.set k v).map vi = (s.binds.map vi).set k (.int .i64 v) from by rw [List.map_set]; rfl]
  exact this
theorem Dy.cellC {n cg bg : Nat} {s : Tr.St} {w : World} (h : Dy n cg bg s w) (k : Nat) (hk : k < n) : w.cell? ⟨cg, k, none⟩ = some (.int .i64 (s.codes[k]?.getD 0)) ∧ w.frozen? ⟨cg, k, none⟩ = false := by
  refine ⟨?_, h.c.frozenAt k⟩
  rw [h.c.cellAt k (by omega)]
  have := h.lens.1
  rw [List.getElem?_map, List.getElem?_eq_getElem (by omega)]; rfl
theorem Dy.cellB {n cg bg : Nat} {s : Tr.St} {w : World} (h : Dy n cg bg s w) (k : Nat) (hk : k < n) : w.cell? ⟨bg, k, none⟩ = some (.int .i64 (s.binds[k]?.getD 0)) ∧ w.frozen? ⟨bg, k, none⟩ = false := by
  refine ⟨?_, h.b.frozenAt k⟩
  rw [h.b.cellAt k (by omega)]
  have := h.lens.2
  rw [List.getElem?_map, List.getElem?_eq_getElem (by omega)]; rfl

set_option maxRecDepth 100000 in
set_option maxHeartbeats 1000000 in
theorem fault_any (ns : List Tr.Nd) (ks : List (List Nat)) (wb tg tc kg kc cg bg k : Nat) (c : Int) (s : Tr.St) (w : World) (hk : k < ns.length) (hF : Fx ns ks wb tg tc kg kc cg bg w) (hD : Dy ns.length cg bg s w) :
    Calls Tryd.prog 50 #[.pointer (some ⟨wb, 0, none⟩), .int .i64 k, .int .i64 c] w fun e w' => e = .returned (.tuple #[]) ∧ Kp cg bg w w' ∧ Dy ns.length cg bg (Tr.faultS k c s) w' := by
  have h2 := hF.f2
  obtain ⟨hc, hf⟩ := hD.cellC k hk
  have HD := hide hD
  have HS := hide (show Tr.faultS k c s = if s.codes[k]?.getD 0 = 0 ∨ c < s.codes[k]?.getD 0 then { s with codes := s.codes.set k c } else s from rfl)
  clear hF hD
  generalize s.codes[k]?.getD 0 = z at *
  cases hz : (z == 0)
  · by_cases hlt : c < z
    · have HS2 : Hid (Tr.faultS k c s = { s with codes := s.codes.set k c }) := hide (by rw [HS.out, if_pos (.inr hlt)])
      go_enter Tryd.func50, Tryd.ntmps50
      go_wp2
      (first | go_end0 | refine bodyPost_ret (results_none rfl _ _ _) rfl ?_)
      exact ⟨rfl, (Kp.refl _ _ _).setCell _ _ (.inl rfl), by rw [HS2.out]; exact HD.out.setC k c⟩
    · have HS2 : Hid (Tr.faultS k c s = s) := hide (by rw [HS.out, if_neg (by rintro (h | h); simp [h] at hz; exact hlt h)])
      go_enter Tryd.func50, Tryd.ntmps50
      go_wp2
      (first | go_end0 | refine bodyPost_ret (results_none rfl _ _ _) rfl ?_)
      exact ⟨rfl, Kp.refl _ _ _, by rw [HS2.out]; exact HD.out⟩
  · have HS2 : Hid (Tr.faultS k c s = { s with codes := s.codes.set k c }) := hide (by rw [HS.out, if_pos (.inl (by simpa using hz))])
    go_enter Tryd.func50, Tryd.ntmps50
    go_wp2
    (first | go_end0 | refine bodyPost_ret (results_none rfl _ _ _) rfl ?_)
    exact ⟨rfl, (Kp.refl _ _ _).setCell _ _ (.inl rfl), by rw [HS2.out]; exact HD.out.setC k c⟩
end Go.Proofs.YtmklgiononbmmaaDoor
