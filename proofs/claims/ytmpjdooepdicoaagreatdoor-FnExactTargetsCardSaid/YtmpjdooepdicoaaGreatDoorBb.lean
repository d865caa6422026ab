/- Targets, the program's side: a record read as a target. -/
import Derived.Test.YtmpjdooepdicoaaGreatDoorBa
import Derived.Test.YtmpjdooepdicoaaGreatDoorYi
namespace Go.Proofs.YtmpjdooepdicoaaGreatDoor.Vl
open Go.RowKit T.atoms T.ok T.high T.good T.allPlain DatAt

def setI (x : Tg) (k : Nat) (s : ByteArray) : Tg := match k with
  | 0 => ⟨s, x.tool, x.arg, x.ins, x.outs⟩
  | 1 => ⟨x.name, s, x.arg, x.ins, x.outs⟩
  | _ => ⟨x.name, x.tool, s, x.ins, x.outs⟩
def stepI (x : Tg) (s : ByteArray) (b : T) : Option Tg :=
  if s = ⟨#[110, 97, 109, 101]⟩ then (if (txtI b).2 = true then some ⟨(txtI b).1, x.tool, x.arg, x.ins, x.outs⟩ else none)
  else if s = ⟨#[116, 111, 111, 108]⟩ then (if (txtI b).2 = true then some ⟨x.name, (txtI b).1, x.arg, x.ins, x.outs⟩ else none)
  else if s = ⟨#[97, 114, 103]⟩ then (if (txtI b).2 = true then some ⟨x.name, x.tool, (txtI b).1, x.ins, x.outs⟩ else none)
  else if s = ⟨#[105, 110, 115]⟩ then (placesI b).map fun l => ⟨x.name, x.tool, x.arg, l, x.outs⟩
  else if s = ⟨#[111, 117, 116, 115]⟩ then (placesI b).map fun l => ⟨x.name, x.tool, x.arg, x.ins, l⟩
  else none
def foldI : Tg → List T → Option Tg
  | x, a :: b :: r => (stepI x a.text b).bind fun y => foldI y r
  | x, _ => some x
def finI (x : Tg) : Option Tg := if x.name ≠ ⟨#[]⟩ ∧ x.tool ≠ ⟨#[]⟩ ∧ x.outs.length ≠ 0 then some x else none
def tg0 : Tg := ⟨⟨#[]⟩, ⟨#[]⟩, ⟨#[]⟩, [], []⟩
def targetI (t : T) : Option Tg := if t.kind = 6 then (foldI tg0 t.ks).bind finI else none
theorem foldI_at (ks : List T) (i : Nat) (a b : T) (x : Tg) (ha : ks[2 * i]? = some a) (hb : ks[2 * i + 1]? = some b) : foldI x (ks.drop (2 * i)) = (stepI x a.text b).bind fun y => foldI y (ks.drop (2 * (i + 1))) := by
  obtain ⟨h1, e1⟩ := List.getElem?_eq_some_iff.1 ha
  obtain ⟨h2, e2⟩ := List.getElem?_eq_some_iff.1 hb
  rw [List.drop_eq_getElem_cons h1, List.drop_eq_getElem_cons h2, e1, e2, foldI]
  rfl
theorem fld_pair {w : World} {x : Nat} : ∀ {l : List T} {vs : List Value}, FldL w x l vs → ∀ i, 2 * i + 1 < l.length → ∃ a b v, l[2 * i]? = some a ∧ l[2 * i + 1]? = some b ∧ vs[2 * i]? = some (.string a.text) ∧ vs[2 * i + 1]? = some v ∧ DatAt w x b v
  | [], vs, h, i, hi => by simp at hi
  | [_], vs, h, i, hi => by unfold FldL at h; exact h.elim
  | a :: b :: r, vs, h, 0, hi => by
    unfold FldL at h
    obtain ⟨v, vr, rfl, h2, _⟩ := h
    exact ⟨a, b, v, rfl, rfl, rfl, rfl, h2⟩
  | a :: b :: r, vs, h, i + 1, hi => by
    unfold FldL at h
    obtain ⟨v, vr, rfl, _, h3⟩ := h
    obtain ⟨a', b', v', q1, q2, q3, q4, q5⟩ := fld_pair h3 i (by simp at hi; omega)
    exact ⟨a', b', v', q1, q2, q3, q4, q5⟩
theorem fldL_below {w w' : World} {x : Nat} {l : List T} {vs : List Value} (h : FldL w x l vs) (hb : Below w.heap.size w w') : FldL w' x l vs := FldL.moves (Moves.below hb) _ _ h
theorem SR.set {B b j : Nat} {R : List (Value × List ByteArray)} {W : World} (h : SR B R W) (hb : b < B) (v : Value) : SR B R (W.setCell ⟨b, j, none⟩ v) := ⟨fun r hr => row_set (h.own r hr) hb, h.sep⟩
/-- targetOf's boxes: the answer's, the variable's; the rows of texts. -/
structure TI (w : World) (x : Tg) (vi vo : Value) (W : World) : Prop where
  B : Below w.heap.size w W
  y : ∀ j, j < 5 → W.cell? ⟨w.heap.size, j, none⟩ = #[Value.string ⟨#[]⟩, .string ⟨#[]⟩, .string ⟨#[]⟩, .slice none 0 0, .slice none 0 0][j]?
  g : ∀ j, W.frozen? ⟨w.heap.size, j, none⟩ = false
  o : ∀ j, j < 5 → W.cell? ⟨w.heap.size + 1 + 1, j, none⟩ = #[Value.string x.name, .string x.tool, .string x.arg, vi, vo][j]?
  f : ∀ j, W.frozen? ⟨w.heap.size + 1 + 1, j, none⟩ = false
  S : SR (w.heap.size + 1 + 1 + 1) [(vi, x.ins), (vo, x.outs)] W
  z : w.heap.size + 1 + 1 < W.heap.size
theorem TI.below {w W W' : World} {x : Tg} {vi vo : Value} (h : TI w x vi vo W) (hb : Below W.heap.size W W') : TI w x vi vo W' := by
  have hz := h.z
  have e : ∀ b o, b ≤ w.heap.size + 1 + 1 → W'.cell? ⟨b, o, none⟩ = W.cell? ⟨b, o, none⟩ := fun b o hb' => hb.cell (p := ⟨b, o, none⟩) (by show b < _; omega)
  have f : ∀ b o, b ≤ w.heap.size + 1 + 1 → W'.frozen? ⟨b, o, none⟩ = W.frozen? ⟨b, o, none⟩ := fun b o hb' => hb.frozen (p := ⟨b, o, none⟩) (by show b < _; omega)
  exact ⟨h.B.trans (hb.mono h.B.size), fun j hj => (e _ _ (by omega)).trans (h.y j hj), fun j => (f _ _ (by omega)).trans (h.g j), fun j hj => (e _ _ (by omega)).trans (h.o j hj), fun j => (f _ _ (by omega)).trans (h.f j), h.S.below hb, Nat.lt_of_lt_of_le hz hb.size⟩
theorem TI.put {w W : World} {x x' : Tg} {vi vo vi' vo' : Value} (h : TI w x vi vo W) (i : Nat) (v : Value) (hi : i < 5) (hx : #[Value.string x'.name, .string x'.tool, .string x'.arg, vi', vo'] = #[Value.string x.name, .string x.tool, .string x.arg, vi, vo].setIfInBounds i v) (hS : SR (w.heap.size + 1 + 1 + 1) [(vi', x'.ins), (vo', x'.outs)] W) : TI w x' vi' vo' (W.setCell ⟨w.heap.size + 1 + 1, i, none⟩ v) := by
  have hs : (W.setCell ⟨w.heap.size + 1 + 1, i, none⟩ v).heap.size = W.heap.size := by simp
  have e : ∀ a : Addr, (⟨w.heap.size + 1 + 1, i, none⟩ : Addr) ≠ a → (W.setCell ⟨w.heap.size + 1 + 1, i, none⟩ v).cell? a = W.cell? a := fun a ha => World.cell?_setCell_other _ _ _ _ ha
  refine ⟨h.B.setCell (p := ⟨w.heap.size + 1 + 1, i, none⟩) (by show w.heap.size ≤ w.heap.size + 1 + 1; omega) _, fun j hj => (e _ (by simp)).trans (h.y j hj), fun j => by simpa using h.g j, fun j hj => ?_, fun j => by simpa using h.f j, hS.set (by omega) v, by rw [hs]; exact h.z⟩
  rw [hx]
  by_cases hij : i = j
  · subst hij
    rw [Array.getElem?_setIfInBounds_self_of_lt (by simpa using hi)]
    exact World.cell?_setCell_same _ _ _ ((h.o i hj).trans (Array.getElem?_eq_getElem (by simpa using hi)))
  · rw [Array.getElem?_setIfInBounds_ne hij]
    exact (e _ (fun h => hij (by injection h))).trans (h.o j hj)
theorem TI.start (w : World) (r : Array Value) (tr : TypeId) : TI w tg0 (.slice none 0 0) (.slice none 0 0) (((w.alloc (.cells #[.string ⟨#[]⟩, .string ⟨#[]⟩, .string ⟨#[]⟩, .slice none 0 0, .slice none 0 0] 49)).alloc (.cells r tr)).alloc (.cells #[.string ⟨#[]⟩, .string ⟨#[]⟩, .string ⟨#[]⟩, .slice none 0 0, .slice none 0 0] 49)) := by
  have k : ∀ (X : World) (o : Array Value) (t : TypeId) j, (X.alloc (.cells o t)).cell? ⟨X.heap.size, j, none⟩ = o[j]? := fun X o t j => by simp
  have kf : ∀ (X : World) (o : Array Value) (t : TypeId) j, (X.alloc (.cells o t)).frozen? ⟨X.heap.size, j, none⟩ = false := fun X o t j => by simp
  have n1 : ∀ (X : World) (o : Obj) (b j : Nat), b < X.heap.size → (X.alloc o).cell? ⟨b, j, none⟩ = X.cell? ⟨b, j, none⟩ := fun X o b j hb => ((Below.refl X.heap.size X).alloc (Nat.le_refl _) o).cell (p := ⟨b, j, none⟩) hb
  have n2 : ∀ (X : World) (o : Obj) (b j : Nat), b < X.heap.size → (X.alloc o).frozen? ⟨b, j, none⟩ = X.frozen? ⟨b, j, none⟩ := fun X o b j hb => ((Below.refl X.heap.size X).alloc (Nat.le_refl _) o).frozen (p := ⟨b, j, none⟩) hb
  generalize hX : w.alloc (.cells #[.string ⟨#[]⟩, .string ⟨#[]⟩, .string ⟨#[]⟩, .slice none 0 0, .slice none 0 0] 49) = X
  have sX : X.heap.size = w.heap.size + 1 := by rw [← hX, World.size_alloc]
  generalize hY : X.alloc (.cells r tr) = Y
  have sY : Y.heap.size = w.heap.size + 1 + 1 := by rw [← hY, World.size_alloc, sX]
  refine ⟨?_, fun j hj => ?_, fun j => ?_, fun j hj => ?_, fun j => ?_, ?_, by rw [World.size_alloc, sY]; omega⟩
  · rw [← hY, ← hX]; exact (((Below.refl _ _).alloc (Nat.le_refl _) _).alloc (by simp) _).alloc (by simp; omega) _
  · rw [n1 Y _ _ _ (by omega), ← hY, n1 X _ _ _ (by omega), ← hX]; exact k _ _ _ _
  · rw [n2 Y _ _ _ (by omega), ← hY, n2 X _ _ _ (by omega), ← hX]; exact kf _ _ _ _
  · rw [← sY]; exact k _ _ _ _
  · rw [← sY]; exact kf _ _ _ _
  · refine ⟨fun q hq => ?_, ?_⟩
    · have : q = (.slice none 0 0, []) := by simpa [tg0] using hq
      subst this
      exact World.ownsRow_nil _ _ _ _
    · refine List.pairwise_cons.2 ⟨fun s _ b hb => ?_, List.pairwise_singleton _ _⟩
      cases hb
/-- What targetOf hands back. -/
def TPostI (w : World) (r : Option Tg) (e : Ending) (w' : World) : Prop := Below w.heap.size w w' ∧ ∃ a b c pi ni qi po no qo, e = .returned (.tuple #[.agg #[.string a, .string b, .string c, .slice pi ni qi, .slice po no qo], .bool r.isSome]) ∧ ∀ x, r = some x → a = x.name ∧ b = x.tool ∧ c = x.arg ∧ SR w.heap.size [(.slice pi ni qi, x.ins), (.slice po no qo, x.outs)] w'
theorem TPostI.no {w w' : World} {a b c : ByteArray} {pi po : Option Addr} {ni qi no qo : Nat} (hb : Below w.heap.size w w') : TPostI w none (.returned (.tuple #[.agg #[.string a, .string b, .string c, .slice pi ni qi, .slice po no qo], .bool false])) w' :=
  ⟨hb, a, b, c, pi, ni, qi, po, no, qo, rfl, fun x h => by cases h⟩
theorem TI.all {w W : World} {x : Tg} {vi vo : Value} (h : TI w x vi vo W) :
    (W.cell? ⟨w.heap.size + 1 + 1, 0, none⟩ = some (.string x.name) ∧ W.cell? ⟨w.heap.size + 1 + 1, 1, none⟩ = some (.string x.tool) ∧ W.cell? ⟨w.heap.size + 1 + 1, 2, none⟩ = some (.string x.arg) ∧ W.cell? ⟨w.heap.size + 1 + 1, 3, none⟩ = some vi ∧ W.cell? ⟨w.heap.size + 1 + 1, 4, none⟩ = some vo) ∧
    (W.frozen? ⟨w.heap.size + 1 + 1, 0, none⟩ = false ∧ W.frozen? ⟨w.heap.size + 1 + 1, 1, none⟩ = false ∧ W.frozen? ⟨w.heap.size + 1 + 1, 2, none⟩ = false ∧ W.frozen? ⟨w.heap.size + 1 + 1, 3, none⟩ = false ∧ W.frozen? ⟨w.heap.size + 1 + 1, 4, none⟩ = false) :=
  ⟨⟨h.o 0 (by omega), h.o 1 (by omega), h.o 2 (by omega), h.o 3 (by omega), h.o 4 (by omega)⟩, ⟨h.f 0, h.f 1, h.f 2, h.f 3, h.f 4⟩⟩
theorem TI.ans {w W : World} {x : Tg} {vi vo : Value} (h : TI w x vi vo W) :
    (W.cell? ⟨w.heap.size, 0, none⟩ = some (.string ⟨#[]⟩) ∧ W.cell? ⟨w.heap.size, 1, none⟩ = some (.string ⟨#[]⟩) ∧ W.cell? ⟨w.heap.size, 2, none⟩ = some (.string ⟨#[]⟩) ∧ W.cell? ⟨w.heap.size, 3, none⟩ = some (.slice none 0 0) ∧ W.cell? ⟨w.heap.size, 4, none⟩ = some (.slice none 0 0)) ∧
    (W.frozen? ⟨w.heap.size, 0, none⟩ = false ∧ W.frozen? ⟨w.heap.size, 1, none⟩ = false ∧ W.frozen? ⟨w.heap.size, 2, none⟩ = false ∧ W.frozen? ⟨w.heap.size, 3, none⟩ = false ∧ W.frozen? ⟨w.heap.size, 4, none⟩ = false) :=
  ⟨⟨h.y 0 (by omega), h.y 1 (by omega), h.y 2 (by omega), h.y 3 (by omega), h.y 4 (by omega)⟩, ⟨h.g 0, h.g 1, h.g 2, h.g 3, h.g 4⟩⟩
theorem sr_drew {B : Nat} {R : List (Value × List ByteArray)} {W : World} (h : SR B R W) : SR B R W.drew := h.below ((Below.refl _ _).drew)
theorem sr_form {B : Nat} {W : World} {a b : Value × List ByteArray} (h : SR B [a, b] W) : (∃ p c, a.1 = .slice p a.2.length c) ∧ ∃ p c, b.1 = .slice p b.2.length c :=
  ⟨row_form (h.own a (List.mem_cons_self ..)), row_form (h.own b (List.mem_cons_of_mem _ (List.mem_cons_self ..)))⟩
theorem SR.mono {B B' : Nat} {R : List (Value × List ByteArray)} {W : World} (h : SR B R W) (hB : B' ≤ B) : SR B' R W := ⟨fun r hr => row_mono (h.own r hr) hB, h.sep⟩
theorem box2T (w : World) (a b : Value) (t : TypeId) : Below w.heap.size w (w.alloc (.cells #[a, b] t)) ∧ (w.alloc (.cells #[a, b] t)).cell? ⟨w.heap.size, 0, none⟩ = some a ∧ (w.alloc (.cells #[a, b] t)).cell? ⟨w.heap.size, 1, none⟩ = some b ∧ (w.alloc (.cells #[a, b] t)).heap.size = w.heap.size + 1 :=
  ⟨(Below.refl _ _).alloc (Nat.le_refl _) _, by simp, by simp, World.size_alloc _ _⟩
set_option maxRecDepth 100000 in
set_option maxHeartbeats 4000000 in
theorem targetOf_rec (ks : List T) (m : Nat) (vs : List Value) (p : Option Addr) (c X : Nat) (a0 d0 : Int) (w : World) (hm : ks.length = 2 * m) (hcnt : (atomsL ks).length ≤ 999) (hL : FldL w X ks vs) (hR : RowAt w X p vs) (r : Option Tg) (hr : (foldI tg0 ks).bind finI = r) :
    Calls Tryz.prog 56 #[.iface 164 (.agg #[.slice p m c, .int .i64 a0, .int .i64 d0])] w (TPostI w r) := by
  have ht := fun w => ta_rec_yes p m c a0 d0 w
  have HL := hide hL
  have HR := hide hR
  have hm2 : m ≤ 999 := by have := len_le_atomsL ks; omega
  have HM := hide hm
  have HCT := hide hcnt
  have HRR := hide hr
  have T0 := hide (TI.start w #[.slice p m c, .int .i64 a0, .int .i64 d0] 164)
  clear hL hR hm hr hcnt
  go_enter Tryz.func56, Tryz.ntmps56
  go_wp2
  go_loopw [21] (fun u wr => ∃ (i : Nat) (x : Tg) (vi vo : Value), i ≤ m ∧ u = .int .i64 i ∧ TI w x vi vo wr ∧ (foldI x (ks.drop (2 * i))).bind finI = r) (fun u _ => m - (intOf u).toNat)
  case atStart => exact ⟨0, tg0, _, _, Nat.zero_le _, rfl, T0.out, HRR.out⟩
  case round =>
    obtain ⟨i, x, vi, vo, hi, rfl, hTI, hF⟩ := hrel
    have HTI := hide hTI
    have HF := hide hF
    clear hTI hF
    by_cases hlt : i < m
    · obtain ⟨a, b, v, ha, hb, va, vb, hdb⟩ := fld_pair (fldL_below HL.out HTI.out.B) i (by rw [HM.out]; omega)
      obtain ⟨gf, of, rfl, hgf, cn⟩ := (HR.out.below HTI.out.B).get _ _ va
      obtain ⟨gf2, of2, hpe, _, cv⟩ := (HR.out.below HTI.out.B).get _ _ vb
      cases hpe
      have HFA := hide (foldI_at ks i a b x ha hb)
      have hbk : b.ks.length ≤ 1000 := by
        have h1 := (List.getElem?_eq_some_iff.1 hb).1
        have h2 := (List.getElem?_eq_some_iff.1 hb).2
        have h3 := count_mem ks (2 * i + 1) h1
        rw [h2] at h3
        have h4 := T.count_eq b
        have h5 := len_le_atomsL b.ks
        have h6 := HCT.out
        omega
      have HDB := hide hdb
      rw [Nat.mul_comm 2 i] at cn cv
      clear ha hb va vb hdb
      rw [← Nat.add_assoc] at cv
      obtain ⟨y, u, rfl⟩ := HDB.out.isIface
      have bx := box2T wr (.string a.text) (.iface y u) 167
      generalize a.text = s at *
      by_cases q1 : s = ⟨#[110, 97, 109, 101]⟩
      · subst q1
        have HST : Hid (stepI x ⟨#[110, 97, 109, 101]⟩ b = if (txtI b).2 = true then some ⟨(txtI b).1, x.tool, x.arg, x.ins, x.outs⟩ else none) := hide (by unfold stepI; rw [if_pos rfl])
        have k_name : ((⟨#[110, 97, 109, 101]⟩ : ByteArray).toList == (⟨#[110, 97, 109, 101]⟩ : ByteArray).toList) = true := by rw [ba_eq]; decide
        have HTX := hide (fun w1 (hb : Below wr.heap.size wr w1) => textOf_any b (.iface y u) X w1 (DatAt.moves (Moves.below hb) _ _ HDB.out))
        clear HDB
        generalize txtI b = q at *
        obtain ⟨s1, ok⟩ := q
        simp only at HTX HST
        go_wp2_with fail
        refine (HTX.out _ bx.1).mono ?_
        rintro e w1 ⟨rfl, rfl⟩
        obtain ⟨⟨x0, x1, x2, x3, x4⟩, ⟨g0, g1, g2, g3, g4⟩⟩ := (HTI.out.below bx.1).all
        have HT2 := hide ((HTI.out.below bx.1).put (x' := ⟨s1, x.tool, x.arg, x.ins, x.outs⟩) (vi' := vi) (vo' := vo) 0 (.string s1) (by omega) rfl (HTI.out.S.below bx.1))
        obtain ⟨⟨y0, y1, y2, y3, y4⟩, ⟨z0, z1, z2, z3, z4⟩⟩ := HT2.out.ans
        cases ok
        · have HRN : Hid (r = none) := hide (by rw [← HF.out, HFA.out, HST.out]; rfl)
          go_wp2
          refine bodyPost_ret (v := .tuple #[.agg #[.string ⟨#[]⟩, .string ⟨#[]⟩, .string ⟨#[]⟩, .slice none 0 0, .slice none 0 0], .bool false]) (by simp [results, Tryz.results56, go_sem, y0, y1, y2, y3, y4]) rfl ?_
          rw [show r = none from HRN.out]
          refine TPostI.no ?_
          iterate 5 (refine Below.setCell ?_ (by show w.heap.size ≤ w.heap.size; exact Nat.le_refl _) _)
          exact HT2.out.B
        · have HRF : Hid ((foldI ⟨s1, x.tool, x.arg, x.ins, x.outs⟩ (ks.drop (2 * (i + 1)))).bind finI = r) := hide (by rw [← HF.out, HFA.out, HST.out]; rfl)
          clear y0 y1 y2 y3 y4 z0 z1 z2 z3 z4
          go_wp2
          go_roundw
          case rel => exact ⟨i + 1, _, vi, vo, by omega, by go_num, HT2.out, HRF.out⟩
          case measure => simp [intOf]; omega
      · have n_name : (s.toList == [110, 97, 109, 101]) = false := by have h := ba_eq s ⟨#[110, 97, 109, 101]⟩; rw [decide_eq_false q1, Lib.toList_data ⟨#[110, 97, 109, 101]⟩] at h; exact h
        by_cases q2 : s = ⟨#[116, 111, 111, 108]⟩
        · subst q2
          have HST : Hid (stepI x ⟨#[116, 111, 111, 108]⟩ b = if (txtI b).2 = true then some ⟨x.name, (txtI b).1, x.arg, x.ins, x.outs⟩ else none) := hide (by unfold stepI; rw [if_neg (by decide)]; rw [if_pos rfl])
          have k_name : ((⟨#[116, 111, 111, 108]⟩ : ByteArray).toList == (⟨#[110, 97, 109, 101]⟩ : ByteArray).toList) = false := by rw [ba_eq]; decide
          have k_tool : ((⟨#[116, 111, 111, 108]⟩ : ByteArray).toList == (⟨#[116, 111, 111, 108]⟩ : ByteArray).toList) = true := by rw [ba_eq]; decide
          have HTX := hide (fun w1 (hb : Below wr.heap.size wr w1) => textOf_any b (.iface y u) X w1 (DatAt.moves (Moves.below hb) _ _ HDB.out))
          clear HDB
          generalize txtI b = q at *
          obtain ⟨s1, ok⟩ := q
          simp only at HTX HST
          go_wp2_with fail
          refine (HTX.out _ bx.1).mono ?_
          rintro e w1 ⟨rfl, rfl⟩
          obtain ⟨⟨x0, x1, x2, x3, x4⟩, ⟨g0, g1, g2, g3, g4⟩⟩ := (HTI.out.below bx.1).all
          have HT2 := hide ((HTI.out.below bx.1).put (x' := ⟨x.name, s1, x.arg, x.ins, x.outs⟩) (vi' := vi) (vo' := vo) 1 (.string s1) (by omega) rfl (HTI.out.S.below bx.1))
          obtain ⟨⟨y0, y1, y2, y3, y4⟩, ⟨z0, z1, z2, z3, z4⟩⟩ := HT2.out.ans
          cases ok
          · have HRN : Hid (r = none) := hide (by rw [← HF.out, HFA.out, HST.out]; rfl)
            go_wp2
            refine bodyPost_ret (v := .tuple #[.agg #[.string ⟨#[]⟩, .string ⟨#[]⟩, .string ⟨#[]⟩, .slice none 0 0, .slice none 0 0], .bool false]) (by simp [results, Tryz.results56, go_sem, y0, y1, y2, y3, y4]) rfl ?_
            rw [show r = none from HRN.out]
            refine TPostI.no ?_
            iterate 5 (refine Below.setCell ?_ (by show w.heap.size ≤ w.heap.size; exact Nat.le_refl _) _)
            exact HT2.out.B
          · have HRF : Hid ((foldI ⟨x.name, s1, x.arg, x.ins, x.outs⟩ (ks.drop (2 * (i + 1)))).bind finI = r) := hide (by rw [← HF.out, HFA.out, HST.out]; rfl)
            clear y0 y1 y2 y3 y4 z0 z1 z2 z3 z4
            go_wp2
            go_roundw
            case rel => exact ⟨i + 1, _, vi, vo, by omega, by go_num, HT2.out, HRF.out⟩
            case measure => simp [intOf]; omega
        · have n_tool : (s.toList == [116, 111, 111, 108]) = false := by have h := ba_eq s ⟨#[116, 111, 111, 108]⟩; rw [decide_eq_false q2, Lib.toList_data ⟨#[116, 111, 111, 108]⟩] at h; exact h
          by_cases q3 : s = ⟨#[97, 114, 103]⟩
          · subst q3
            have HST : Hid (stepI x ⟨#[97, 114, 103]⟩ b = if (txtI b).2 = true then some ⟨x.name, x.tool, (txtI b).1, x.ins, x.outs⟩ else none) := hide (by unfold stepI; rw [if_neg (by decide)]; rw [if_neg (by decide)]; rw [if_pos rfl])
            have k_name : ((⟨#[97, 114, 103]⟩ : ByteArray).toList == (⟨#[110, 97, 109, 101]⟩ : ByteArray).toList) = false := by rw [ba_eq]; decide
            have k_tool : ((⟨#[97, 114, 103]⟩ : ByteArray).toList == (⟨#[116, 111, 111, 108]⟩ : ByteArray).toList) = false := by rw [ba_eq]; decide
            have k_arg : ((⟨#[97, 114, 103]⟩ : ByteArray).toList == (⟨#[97, 114, 103]⟩ : ByteArray).toList) = true := by rw [ba_eq]; decide
            have HTX := hide (fun w1 (hb : Below wr.heap.size wr w1) => textOf_any b (.iface y u) X w1 (DatAt.moves (Moves.below hb) _ _ HDB.out))
            clear HDB
            generalize txtI b = q at *
            obtain ⟨s1, ok⟩ := q
            simp only at HTX HST
            go_wp2_with fail
            refine (HTX.out _ bx.1).mono ?_
            rintro e w1 ⟨rfl, rfl⟩
            obtain ⟨⟨x0, x1, x2, x3, x4⟩, ⟨g0, g1, g2, g3, g4⟩⟩ := (HTI.out.below bx.1).all
            have HT2 := hide ((HTI.out.below bx.1).put (x' := ⟨x.name, x.tool, s1, x.ins, x.outs⟩) (vi' := vi) (vo' := vo) 2 (.string s1) (by omega) rfl (HTI.out.S.below bx.1))
            obtain ⟨⟨y0, y1, y2, y3, y4⟩, ⟨z0, z1, z2, z3, z4⟩⟩ := HT2.out.ans
            cases ok
            · have HRN : Hid (r = none) := hide (by rw [← HF.out, HFA.out, HST.out]; rfl)
              go_wp2
              refine bodyPost_ret (v := .tuple #[.agg #[.string ⟨#[]⟩, .string ⟨#[]⟩, .string ⟨#[]⟩, .slice none 0 0, .slice none 0 0], .bool false]) (by simp [results, Tryz.results56, go_sem, y0, y1, y2, y3, y4]) rfl ?_
              rw [show r = none from HRN.out]
              refine TPostI.no ?_
              iterate 5 (refine Below.setCell ?_ (by show w.heap.size ≤ w.heap.size; exact Nat.le_refl _) _)
              exact HT2.out.B
            · have HRF : Hid ((foldI ⟨x.name, x.tool, s1, x.ins, x.outs⟩ (ks.drop (2 * (i + 1)))).bind finI = r) := hide (by rw [← HF.out, HFA.out, HST.out]; rfl)
              clear y0 y1 y2 y3 y4 z0 z1 z2 z3 z4
              go_wp2
              go_roundw
              case rel => exact ⟨i + 1, _, vi, vo, by omega, by go_num, HT2.out, HRF.out⟩
              case measure => simp [intOf]; omega
          · have n_arg : (s.toList == [97, 114, 103]) = false := by have h := ba_eq s ⟨#[97, 114, 103]⟩; rw [decide_eq_false q3, Lib.toList_data ⟨#[97, 114, 103]⟩] at h; exact h
            by_cases q4 : s = ⟨#[105, 110, 115]⟩
            · subst q4
              have HST : Hid (stepI x ⟨#[105, 110, 115]⟩ b = (placesI b).map fun l => ⟨x.name, x.tool, x.arg, l, x.outs⟩) := hide (by unfold stepI; rw [if_neg (by decide)]; rw [if_neg (by decide)]; rw [if_neg (by decide)]; rw [if_pos rfl])
              have k_name : ((⟨#[105, 110, 115]⟩ : ByteArray).toList == (⟨#[110, 97, 109, 101]⟩ : ByteArray).toList) = false := by rw [ba_eq]; decide
              have k_tool : ((⟨#[105, 110, 115]⟩ : ByteArray).toList == (⟨#[116, 111, 111, 108]⟩ : ByteArray).toList) = false := by rw [ba_eq]; decide
              have k_arg : ((⟨#[105, 110, 115]⟩ : ByteArray).toList == (⟨#[97, 114, 103]⟩ : ByteArray).toList) = false := by rw [ba_eq]; decide
              have k_ins : ((⟨#[105, 110, 115]⟩ : ByteArray).toList == (⟨#[105, 110, 115]⟩ : ByteArray).toList) = true := by rw [ba_eq]; decide
              have HTX := hide (fun w1 (hb : Below wr.heap.size wr w1) => placesOf_any b (.iface y u) X w1 hbk (DatAt.moves (Moves.below hb) _ _ HDB.out))
              clear HDB
              generalize placesI b = q at *
              go_wp2_with fail
              refine (HTX.out _ bx.1).mono ?_
              rintro e w1 ⟨hb1, p1, n1, c1, rfl, hq1⟩
              have B1 : Below wr.heap.size wr w1 := bx.1.trans (hb1.mono (by omega))
              obtain ⟨⟨x0, x1, x2, x3, x4⟩, ⟨g0, g1, g2, g3, g4⟩⟩ := (HTI.out.below B1).all
              obtain ⟨⟨y0, y1, y2, y3, y4⟩, ⟨z0, z1, z2, z3, z4⟩⟩ := (HTI.out.below B1).ans
              cases q with
              | none =>
                have HRN : Hid (r = none) := hide (by rw [← HF.out, HFA.out, HST.out]; rfl)
                have HT2 : Hid (TI w x vi vo w1) := hide (HTI.out.below B1)
                go_wp2
                refine bodyPost_ret (v := .tuple #[.agg #[.string ⟨#[]⟩, .string ⟨#[]⟩, .string ⟨#[]⟩, .slice none 0 0, .slice none 0 0], .bool false]) (by simp [results, Tryz.results56, go_sem, y0, y1, y2, y3, y4]) rfl ?_
                rw [show r = none from HRN.out]
                refine TPostI.no ?_
                iterate 5 (refine Below.setCell ?_ (by show w.heap.size ≤ w.heap.size; exact Nat.le_refl _) _)
                refine Below.setCell ?_ (by show w.heap.size ≤ w.heap.size + 1 + 1; omega) _
                exact HT2.out.B
              | some l =>
                obtain ⟨hn1, hr1⟩ := hq1 l rfl
                subst hn1
                have hz9 := HTI.out.z
                have S1 := (HTI.out.S.below bx.1).new hb1 (l := l) (v := .slice p1 l.length c1) hr1 (by omega)
                have S2 : SR (w.heap.size + 1 + 1 + 1) [(.slice p1 l.length c1, l), (vo, x.outs)] w1 := (S1.perm (List.Perm.swap _ _ _)).tail
                have HT2 := hide ((HTI.out.below B1).put (x' := ⟨x.name, x.tool, x.arg, l, x.outs⟩) (vi' := .slice p1 l.length c1) (vo' := vo) 3 (.slice p1 l.length c1) (by omega) rfl S2)
                have HRF : Hid ((foldI ⟨x.name, x.tool, x.arg, l, x.outs⟩ (ks.drop (2 * (i + 1)))).bind finI = r) := hide (by rw [← HF.out, HFA.out, HST.out]; rfl)
                clear S1 S2 hr1 hb1 hq1 y0 y1 y2 y3 y4 z0 z1 z2 z3 z4
                go_wp2
                go_roundw
                case rel => exact ⟨i + 1, _, .slice p1 l.length c1, vo, by omega, by go_num, HT2.out, HRF.out⟩
                case measure => simp [intOf]; omega
            · have n_ins : (s.toList == [105, 110, 115]) = false := by have h := ba_eq s ⟨#[105, 110, 115]⟩; rw [decide_eq_false q4, Lib.toList_data ⟨#[105, 110, 115]⟩] at h; exact h
              by_cases q5 : s = ⟨#[111, 117, 116, 115]⟩
              · subst q5
                have HST : Hid (stepI x ⟨#[111, 117, 116, 115]⟩ b = (placesI b).map fun l => ⟨x.name, x.tool, x.arg, x.ins, l⟩) := hide (by unfold stepI; rw [if_neg (by decide)]; rw [if_neg (by decide)]; rw [if_neg (by decide)]; rw [if_neg (by decide)]; rw [if_pos rfl])
                have k_name : ((⟨#[111, 117, 116, 115]⟩ : ByteArray).toList == (⟨#[110, 97, 109, 101]⟩ : ByteArray).toList) = false := by rw [ba_eq]; decide
                have k_tool : ((⟨#[111, 117, 116, 115]⟩ : ByteArray).toList == (⟨#[116, 111, 111, 108]⟩ : ByteArray).toList) = false := by rw [ba_eq]; decide
                have k_arg : ((⟨#[111, 117, 116, 115]⟩ : ByteArray).toList == (⟨#[97, 114, 103]⟩ : ByteArray).toList) = false := by rw [ba_eq]; decide
                have k_ins : ((⟨#[111, 117, 116, 115]⟩ : ByteArray).toList == (⟨#[105, 110, 115]⟩ : ByteArray).toList) = false := by rw [ba_eq]; decide
                have k_outs : ((⟨#[111, 117, 116, 115]⟩ : ByteArray).toList == (⟨#[111, 117, 116, 115]⟩ : ByteArray).toList) = true := by rw [ba_eq]; decide
                have HTX := hide (fun w1 (hb : Below wr.heap.size wr w1) => placesOf_any b (.iface y u) X w1 hbk (DatAt.moves (Moves.below hb) _ _ HDB.out))
                clear HDB
                generalize placesI b = q at *
                go_wp2_with fail
                refine (HTX.out _ bx.1).mono ?_
                rintro e w1 ⟨hb1, p1, n1, c1, rfl, hq1⟩
                have B1 : Below wr.heap.size wr w1 := bx.1.trans (hb1.mono (by omega))
                obtain ⟨⟨x0, x1, x2, x3, x4⟩, ⟨g0, g1, g2, g3, g4⟩⟩ := (HTI.out.below B1).all
                obtain ⟨⟨y0, y1, y2, y3, y4⟩, ⟨z0, z1, z2, z3, z4⟩⟩ := (HTI.out.below B1).ans
                cases q with
                | none =>
                  have HRN : Hid (r = none) := hide (by rw [← HF.out, HFA.out, HST.out]; rfl)
                  have HT2 : Hid (TI w x vi vo w1) := hide (HTI.out.below B1)
                  go_wp2
                  refine bodyPost_ret (v := .tuple #[.agg #[.string ⟨#[]⟩, .string ⟨#[]⟩, .string ⟨#[]⟩, .slice none 0 0, .slice none 0 0], .bool false]) (by simp [results, Tryz.results56, go_sem, y0, y1, y2, y3, y4]) rfl ?_
                  rw [show r = none from HRN.out]
                  refine TPostI.no ?_
                  iterate 5 (refine Below.setCell ?_ (by show w.heap.size ≤ w.heap.size; exact Nat.le_refl _) _)
                  refine Below.setCell ?_ (by show w.heap.size ≤ w.heap.size + 1 + 1; omega) _
                  exact HT2.out.B
                | some l =>
                  obtain ⟨hn1, hr1⟩ := hq1 l rfl
                  subst hn1
                  have hz9 := HTI.out.z
                  have S1 := (HTI.out.S.below bx.1).new hb1 (l := l) (v := .slice p1 l.length c1) hr1 (by omega)
                  have S2 : SR (w.heap.size + 1 + 1 + 1) [(vi, x.ins), (.slice p1 l.length c1, l)] w1 := ((S1.perm ((List.Perm.cons _ (List.Perm.swap _ _ _)).trans (List.Perm.swap _ _ _))).tail).perm (List.Perm.swap _ _ _)
                  have HT2 := hide ((HTI.out.below B1).put (x' := ⟨x.name, x.tool, x.arg, x.ins, l⟩) (vi' := vi) (vo' := .slice p1 l.length c1) 4 (.slice p1 l.length c1) (by omega) rfl S2)
                  have HRF : Hid ((foldI ⟨x.name, x.tool, x.arg, x.ins, l⟩ (ks.drop (2 * (i + 1)))).bind finI = r) := hide (by rw [← HF.out, HFA.out, HST.out]; rfl)
                  clear S1 S2 hr1 hb1 hq1 y0 y1 y2 y3 y4 z0 z1 z2 z3 z4
                  go_wp2
                  go_roundw
                  case rel => exact ⟨i + 1, _, vi, .slice p1 l.length c1, by omega, by go_num, HT2.out, HRF.out⟩
                  case measure => simp [intOf]; omega
              · have n_outs : (s.toList == [111, 117, 116, 115]) = false := by have h := ba_eq s ⟨#[111, 117, 116, 115]⟩; rw [decide_eq_false q5, Lib.toList_data ⟨#[111, 117, 116, 115]⟩] at h; exact h
                have HRN : Hid (r = none) := hide (by rw [← HF.out, HFA.out]; unfold stepI; rw [if_neg q1, if_neg q2, if_neg q3, if_neg q4, if_neg q5]; rfl)
                have HT2 : Hid (TI w x vi vo (wr.alloc (.cells #[.string s, .iface y u] 167))) := hide (HTI.out.below bx.1)
                obtain ⟨⟨y0, y1, y2, y3, y4⟩, ⟨z0, z1, z2, z3, z4⟩⟩ := HT2.out.ans
                clear q1 q2 q3 q4 q5
                go_wp2
                refine bodyPost_ret (v := .tuple #[.agg #[.string ⟨#[]⟩, .string ⟨#[]⟩, .string ⟨#[]⟩, .slice none 0 0, .slice none 0 0], .bool false]) (by simp [results, Tryz.results56, go_sem, y0, y1, y2, y3, y4]) rfl ?_
                rw [show r = none from HRN.out]
                refine TPostI.no ?_
                iterate 5 (refine Below.setCell ?_ (by show w.heap.size ≤ w.heap.size; exact Nat.le_refl _) _)
                exact HT2.out.B
    · have HE : Hid (finI x = r) := hide (by
        have h := HF.out
        rw [List.drop_of_length_le (by rw [HM.out]; omega)] at h
        simpa [foldI] using h)
      clear HF
      obtain ⟨⟨p1, c1, e1⟩, ⟨p2, c2, e2⟩⟩ := sr_form HTI.out.S
      simp only at e1 e2
      subst e1 e2
      obtain ⟨⟨x0, x1, x2, x3, x4⟩, ⟨g0, g1, g2, g3, g4⟩⟩ := HTI.out.all
      obtain ⟨⟨y0, y1, y2, y3, y4⟩, ⟨z0, z1, z2, z3, z4⟩⟩ := HTI.out.ans
      have hz9 := HTI.out.z
      obtain ⟨nm, tl, ar, li, lo⟩ := x
      simp only at x0 x1 x2 x3 x4
      by_cases hn : nm = ⟨#[]⟩
      · subst hn
        have HRN : Hid (r = none) := hide (by rw [← HE.out]; unfold finI; rw [if_neg (fun h => h.1 rfl)])
        go_wp2_with fail
        go_region
        all_goals
          first | go_wp2 | skip
          refine bodyPost_ret (v := .tuple #[.agg #[.string ⟨#[]⟩, .string tl, .string ar, .slice p1 li.length c1, .slice p2 lo.length c2], .bool false]) (by simp [results, Tryz.results56, go_sem, y0, y1, y2, y3, y4]) rfl ?_
          rw [show r = none from HRN.out]
          refine TPostI.no ?_
          repeat (first | (refine Below.setCell ?_ (by show w.heap.size ≤ w.heap.size; exact Nat.le_refl _) _) | (refine Below.drew ?_))
          exact HTI.out.B
      · have HN := hide hn
        have b1 : (nm.toList == []) = false := by have h := ba_eq nm ⟨#[]⟩; rw [decide_eq_false hn, Lib.toList_data ⟨#[]⟩] at h; exact h
        have b2 : (nm.toList != []) = true := by rw [bne, b1]; rfl
        have b3 : ¬ nm.toList = [] := by simpa using b1
        clear hn
        by_cases hq : tl = ⟨#[]⟩
        · subst hq
          have HRN : Hid (r = none) := hide (by rw [← HE.out]; unfold finI; rw [if_neg (fun h => h.2.1 rfl)])
          go_wp2_with fail
          go_region
          all_goals
            first | go_wp2 | skip
            refine bodyPost_ret (v := .tuple #[.agg #[.string nm, .string ⟨#[]⟩, .string ar, .slice p1 li.length c1, .slice p2 lo.length c2], .bool false]) (by simp [results, Tryz.results56, go_sem, y0, y1, y2, y3, y4]) rfl ?_
            rw [show r = none from HRN.out]
            refine TPostI.no ?_
            repeat (first | (refine Below.setCell ?_ (by show w.heap.size ≤ w.heap.size; exact Nat.le_refl _) _) | (refine Below.drew ?_))
            exact HTI.out.B
        · have HQ := hide hq
          have d1 : (tl.toList == []) = false := by have h := ba_eq tl ⟨#[]⟩; rw [decide_eq_false hq, Lib.toList_data ⟨#[]⟩] at h; exact h
          have d2 : (tl.toList != []) = true := by rw [bne, d1]; rfl
          have d3 : ¬ tl.toList = [] := by simpa using d1
          clear hq
          by_cases hl : lo.length = 0
          · have HRN : Hid (r = none) := hide (by rw [← HE.out]; unfold finI; rw [if_neg (fun h => h.2.2 hl)])
            have l1 : decide (0 < (lo.length : Int)) = false := by rw [decide_eq_false_iff_not]; omega
            have l2 : ¬ (0 < (lo.length : Int)) := by omega
            have HL2 := hide hl
            clear hl
            go_wp2_with fail
            go_region
            all_goals
              first | go_wp2 | skip
              refine bodyPost_ret (v := .tuple #[.agg #[.string nm, .string tl, .string ar, .slice p1 li.length c1, .slice p2 lo.length c2], .bool false]) (by simp [results, Tryz.results56, go_sem, y0, y1, y2, y3, y4]; exact List.eq_nil_of_length_eq_zero HL2.out) rfl ?_
              rw [show r = none from HRN.out]
              refine TPostI.no ?_
              repeat (first | (refine Below.setCell ?_ (by show w.heap.size ≤ w.heap.size; exact Nat.le_refl _) _) | (refine Below.drew ?_))
              exact HTI.out.B
          · have HRY : Hid (r = some ⟨nm, tl, ar, li, lo⟩) := hide (by rw [← HE.out]; unfold finI; rw [if_pos ⟨HN.out, HQ.out, hl⟩])
            have l1 : decide (0 < (lo.length : Int)) = true := by rw [decide_eq_true_iff]; omega
            have l2 : (0 < (lo.length : Int)) := by omega
            have HL2 := hide hl
            clear hl
            go_wp2_with fail
            go_region
            all_goals
              first | go_wp2 | skip
              refine bodyPost_ret (v := .tuple #[.agg #[.string nm, .string tl, .string ar, .slice p1 li.length c1, .slice p2 lo.length c2], .bool true]) (by simp [results, Tryz.results56, go_sem, y0, y1, y2, y3, y4]; have h := HL2.out; omega) rfl ?_
              rw [show r = some ⟨nm, tl, ar, li, lo⟩ from HRY.out]
              refine ⟨?_, nm, tl, ar, _, _, _, _, _, _, rfl, fun x h => ?_⟩
              · repeat (first | (refine Below.setCell ?_ (by show w.heap.size ≤ w.heap.size; exact Nat.le_refl _) _) | (refine Below.drew ?_))
                exact HTI.out.B
              · cases h
                refine ⟨rfl, rfl, rfl, SR.mono (B := w.heap.size + 1 + 1 + 1) ?_ (by omega)⟩
                repeat (first | (refine SR.set ?_ (by omega) _) | (refine sr_drew ?_))
                exact HTI.out.S
end Go.Proofs.YtmpjdooepdicoaaGreatDoor.Vl
