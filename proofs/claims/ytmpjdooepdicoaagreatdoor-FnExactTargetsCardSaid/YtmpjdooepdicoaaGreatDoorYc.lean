/- Targets, the specification's side: a list of texts that a record names. -/
import Derived.Test.YtmpjdooepdicoaaGreatDoorYb
namespace Go.Proofs.YtmpjdooepdicoaaGreatDoor.Vl
open Go.RowKit T.atoms T.ok T.high T.good T.allPlain

/-- All blocks that were there are as they were, but one. -/
structure But (r : Nat) (w W : World) : Prop where
  os : W.os = w.os
  tape : W.tape = w.tape
  output : W.output = w.output
  size : w.heap.size ≤ W.heap.size
  block : ∀ b, b < w.heap.size → b ≠ r → W.heap[b]? = w.heap[b]?
theorem But.refl (r : Nat) (w : World) : But r w w := ⟨rfl, rfl, rfl, Nat.le_refl _, fun _ _ _ => rfl⟩
theorem But.below {r : Nat} {w W W' : World} (h : But r w W) (hb : Below W.heap.size W W') : But r w W' :=
  ⟨hb.os.trans h.os, hb.tape.trans h.tape, hb.output.trans h.output, Nat.le_trans h.size hb.size, fun b h1 h2 => (hb.block b (Nat.lt_of_lt_of_le h1 h.size)).trans (h.block b h1 h2)⟩
theorem But.grown {r : Nat} {w W W' : World} {row : Option Nat} (h : But r w W) (hg : W.grownBy W' row) (hr : ∀ q, row = some q → q = r ∨ w.heap.size ≤ q) : But r w W' :=
  ⟨hg.os.trans h.os, hg.tape.trans h.tape, hg.output.trans h.output, Nat.le_trans h.size hg.size, fun b h1 h2 => (hg.block b (Nat.lt_of_lt_of_le h1 h.size) (fun e => by rcases hr b e.symm with h3 | h3 <;> omega)).trans (h.block b h1 h2)⟩
theorem But.out {B r : Nat} {w w2 W : World} (h : But r w2 W) (h1 : Below B w w2) (hr : B ≤ r) (hB : B ≤ w2.heap.size) : Below B w W :=
  ⟨h.os.trans h1.os, h.tape.trans h1.tape, h.output.trans h1.output, Nat.le_trans h1.size h.size, fun b hb => (h.block b (by omega) (by omega)).trans (h1.block b hb)⟩
theorem But.cell {r : Nat} {w W : World} (h : But r w W) {p : Addr} (hp : p.block < w.heap.size) (hr : p.block ≠ r) : W.cell? p = w.cell? p := World.cell?_of_block (h.block _ hp hr)
theorem AtomsO.but {r : Nat} {w W : World} {g o : Nat} {l : List At} (h : AtomsO w g o l) (hb : But r w W) (hr : g ≠ r) : AtomsO W g o l := h.heap (hb.block g h.1 hr)
/-- An empty block holds no atoms. -/
theorem AtomsO.off {w : World} {g o b : Nat} {t : TypeId} {l : List At} (h : AtomsO w g o l) (hl : 0 < l.length) (hb : w.heap[b]? = some (.cells #[] t)) : g ≠ b := by
  rintro rfl
  have h0 := (h.2 0 hl).1
  simp only [World.cell?, hb] at h0
  simp at h0
theorem row_form {w : World} {base : Nat} {e : TypeId} {size n : Nat} {v : Value} {xs : List Value} (h : w.ownsRow base e size v n xs) : ∃ p c, v = .slice p n c := by
  rcases h.2 with ⟨h1, h2⟩ | ⟨g, c, _, h1, _⟩
  · refine ⟨none, 0, ?_⟩
    first | (rw [h1, h2.1]; done) | (rw [h1, h2]; done) | (simp_all; done)
  · exact ⟨_, _, h1⟩
theorem row_belowY {w w1 : World} {base : Nat} {e : TypeId} {size : Nat} {v : Value} {n : Nat} {xs : List Value} (h : w.ownsRow base e size v n xs) (hb : Below w.heap.size w w1) : w1.ownsRow base e size v n xs :=
  h.kept (row := none) ⟨hb.os, hb.tape, hb.output, hb.size, fun k hk _ => hb.block k hk⟩ (by
    cases e : v.ownBlock with
    | none => exact .inl rfl
    | some q => exact .inr (by simp))
theorem Tryz.infoStr : (Tryz.prog.info? 9).map (fun i => (i.zero, i.size, i.bytes)) = some (some (.string ⟨#[]⟩), 1, 16) := by kernel_rfl

/-- A list of texts that a record names. -/
def allT (ks : List T) : Bool := ks.all fun k => decide (k.kind = 4) && !decide (k.text = ⟨#[]⟩)
def list9 (ks : List T) (s : ByteArray) (need : Bool) : Option (List ByteArray) := match getAt ks s with
  | none => if need then none else some []
  | some i => match ks[i + 1]? with
    | none => none
    | some x => if x.kind = 5 ∧ ¬ (need = true ∧ x.ks.length = 0) ∧ allT x.ks = true then some (x.ks.map T.text) else none
/-- What l9List hands back. -/
def LPost (w : World) (r : Option (List ByteArray)) (e : Ending) (w' : World) : Prop := Below w.heap.size w w' ∧ ∃ p n c, e = .returned (.tuple #[.slice p n c, .bool r.isSome]) ∧ ∀ l, r = some l → n = l.length ∧ w'.ownsRow w.heap.size 9 1 (.slice p n c) n (cellsT l)
theorem LPost.no {w w' : World} {p : Option Addr} {n c : Nat} (hb : Below w.heap.size w w') : LPost w none (.returned (.tuple #[.slice p n c, .bool false])) w' :=
  ⟨hb, p, n, c, rfl, fun l h => by cases h⟩
theorem allT_drop (ks : List T) (i : Nat) (h : i < ks.length) (hx : ¬ ((ks[i]).kind = 4 ∧ (ks[i]).text ≠ ⟨#[]⟩)) : allT ks = false := by
  unfold allT
  rw [List.all_eq_false]
  refine ⟨ks[i], List.getElem_mem _, ?_⟩
  simpa using hx
theorem allT_all (ks : List T) (hi : ∀ j (h : j < ks.length), (ks[j]).kind = 4 ∧ (ks[j]).text ≠ ⟨#[]⟩) : allT ks = true := by
  unfold allT
  rw [List.all_eq_true]
  intro k hk
  obtain ⟨j, hj, rfl⟩ := List.getElem_of_mem hk
  have h := hi j hj
  simp [h.1, h.2]
/-- The boxes of l9List, behind l5Get. -/
structure IB (w : World) (W : World) : Prop where
  B : Below w.heap.size w W
  k : W.heap[w.heap.size + 1]? = some (.cells #[] 9)
  z : w.heap.size + 1 < W.heap.size
theorem IB.below {w W W' : World} (h : IB w W) (hb : Below W.heap.size W W') : IB w W' := ⟨h.B.trans (hb.mono h.B.size), (hb.block _ h.z).trans h.k, Nat.lt_of_lt_of_le h.z hb.size⟩
theorem IB.start (w : World) (v : Value) : IB w ((w.alloc (.cells #[v] 45)).alloc (.cells #[] 9)) := by
  have hk := heap_alloc_new (w.alloc (.cells #[v] 45)) (.cells #[] 9)
  rw [World.size_alloc] at hk
  exact ⟨((Below.refl _ _).alloc (Nat.le_refl _) _).alloc (by simp) _, hk, by simp⟩
set_option maxRecDepth 100000 in
set_option maxHeartbeats 2000000 in
theorem list9_none (t : T) (s : ByteArray) (need : Bool) (g o c m : Nat) (w : World) (hm : t.count = m + 1) (h1 : m < 1000) (hc : m + 1 ≤ c) (ht : AtomsO w g o t.atoms) (hga : getAt t.ks s = none) (r : Option (List ByteArray)) (hr0 : need = true → r = none) (hr1 : need = false → r = some []) :
    Calls Tryz.prog 37 #[.agg #[.slice (some ⟨g, o, none⟩) (m + 1) c], .string s, .bool need] w (LPost w r) := by
  have HR0 := hide hr0
  have HR1 := hide hr1
  clear hr0 hr1
  have HG := hide (fun w1 (hb : Below w.heap.size w w1) => get5_any t s g o c m w1 hm h1 hc (ht.below hb))
  have hE := hide (T.count_eq t)
  have HM := hide hm
  clear ht hm
  have o0 := IB.start w (.slice (some ⟨g, o, none⟩) (m + 1) c)
  have R0 : Hid (((w.alloc (.cells #[.slice (some ⟨g, o, none⟩) (m + 1) c] 45)).alloc (.cells #[] 9)).ownsRow w.heap.size 9 1 (.slice (some ⟨w.heap.size + 1, 0, none⟩) 0 0) 0 []) := hide (by
    have h := World.ownsRow_lit (base := w.heap.size) (e := 9) (size := 1) (w.alloc (.cells #[.slice (some ⟨g, o, none⟩) (m + 1) c] 45)) #[] 0 (by simp) (Nat.zero_le _) rfl
    rw [World.size_alloc] at h
    exact h)
  go_enter Tryz.func37, Tryz.ntmps37
  go_wp2_with fail
  refine (HG.out _ o0.B).mono ?_
  rintro e w1 ⟨hb1, hgp⟩
  have O1 := o0.below hb1
  rw [hga] at hgp
  obtain rfl := hgp
  have B2 : Below w1.heap.size w1 (w1.alloc (.cells #[.slice none 0 0] 45)) := (Below.refl _ _).alloc (Nat.le_refl _) _
  have O2 := O1.below B2
  have hrow2 := hide ((row_belowY R0.out hb1).alloc (.cells #[.slice none 0 0] 45))
  cases need
  · go_wp2
    refine bodyPost_ret (v := .tuple #[.slice (some ⟨w.heap.size + 1, 0, none⟩) 0 0, .bool true]) (by simp [results, Tryz.results37, go_sem]) rfl ?_
    rw [HR1.out (by simp)]
    exact ⟨O2.B, _, _, _, rfl, fun l h => by cases h; exact ⟨rfl, hrow2.out⟩⟩
  · go_wp2
    refine bodyPost_ret (v := .tuple #[.slice (some ⟨w.heap.size + 1, 0, none⟩) 0 0, .bool false]) (by simp [results, Tryz.results37, go_sem]) rfl ?_
    rw [HR0.out (by simp)]
    exact LPost.no O2.B
set_option maxRecDepth 100000 in
set_option maxHeartbeats 2000000 in
theorem list9_bad (t x : T) (i : Nat) (s : ByteArray) (need : Bool) (g o c m : Nat) (w : World) (hm : t.count = m + 1) (h1 : m < 1000) (hc : m + 1 ≤ c) (ht : AtomsO w g o t.atoms) (hga : getAt t.ks s = some i) (hx : t.ks[i + 1]? = some x) (hk : x.kind ≠ 5) : Calls Tryz.prog 37 #[.agg #[.slice (some ⟨g, o, none⟩) (m + 1) c], .string s, .bool need] w (LPost w none) := by
  have HG := hide (fun w1 (hb : Below w.heap.size w w1) => get5_any t s g o c m w1 hm h1 hc (ht.below hb))
  have hE := hide (T.count_eq t)
  have HM := hide hm
  clear ht hm
  have o0 := IB.start w (.slice (some ⟨g, o, none⟩) (m + 1) c)
  have R0 : Hid (((w.alloc (.cells #[.slice (some ⟨g, o, none⟩) (m + 1) c] 45)).alloc (.cells #[] 9)).ownsRow w.heap.size 9 1 (.slice (some ⟨w.heap.size + 1, 0, none⟩) 0 0) 0 []) := hide (by
    have h := World.ownsRow_lit (base := w.heap.size) (e := 9) (size := 1) (w.alloc (.cells #[.slice (some ⟨g, o, none⟩) (m + 1) c] 45)) #[] 0 (by simp) (Nat.zero_le _) rfl
    rw [World.size_alloc] at h
    exact h)
  go_enter Tryz.func37, Tryz.ntmps37
  go_wp2_with fail
  refine (HG.out _ o0.B).mono ?_
  rintro e w1 ⟨hb1, hgp⟩
  have O1 := o0.below hb1
  rw [hga] at hgp
  obtain ⟨hi, gx, ox, cx, rfl, hatx, hcx⟩ := hgp
  have hxe : t.ks[i + 1] = x := by rw [List.getElem?_eq_getElem hi] at hx; exact Option.some.inj hx
  have hsx := count_mem t.ks (i + 1) hi
  rw [hxe] at hatx hcx hsx ⊢
  obtain ⟨mx, hmx⟩ : ∃ mx, x.count = mx + 1 := ⟨x.count - 1, by have := atoms_pos x; unfold T.count; omega⟩
  have hmx1 : mx < 1000 := by have := hE.out; have := HM.out; omega
  rw [hmx]
  have r1 : Below w1.heap.size w1 (w1.alloc (.cells #[.slice (some ⟨gx, ox, none⟩) (mx + 1) cx] 45)) := (Below.refl _ _).alloc (Nat.le_refl _) _
  have X1 := hide (XB.new (.slice (some ⟨gx, ox, none⟩) (mx + 1) cx) 45 O1.B)
  have HKD := hide (fun w2 (hb : Below w1.heap.size w1 w2) => kids5_any x.atoms gx ox cx mx w2 hmx (by omega) (hatx.below hb) (by omega))
  have HKA := hide (fun w2 (hb : Below w1.heap.size w1 w2) => kind6_any ⟨x.kind, x.num, x.text, x.ks.length⟩ x.atoms gx ox cx mx w2 hmx (by omega) (atoms_last _ mx hmx) (hatx.below hb))
  have O1a := O1.below r1
  have c1 := X1.out.c
  go_wp2_with fail
  refine (HKD.out _ r1).mono ?_
  rintro e w2 ⟨g7, c7, nk, vs, ok, rfl, ⟨hyes, -⟩, hb2⟩
  obtain ⟨rfl, rfl, hown, hkids⟩ := hyes x (treeOf_atoms x)
  have O2 := O1a.below hb2
  have X2 := X1.out.below hb2
  have c2 := X2.c
  have r2 := r1.trans (hb2.mono r1.size)
  have HOA := hide hown
  have HKI := hide hkids
  clear hown hkids hyes
  go_wp2_with fail
  refine (HKA.out _ r2).mono ?_
  rintro e w3 ⟨rfl, hb3⟩
  have O3 := O2.below hb3
  have hkn : (x.kind != 5) = true := by simpa using hk
  go_wp2
  refine bodyPost_ret (v := .tuple #[.slice (some ⟨w.heap.size + 1, 0, none⟩) 0 0, .bool false]) (by simp [results, Tryz.results37, go_sem]) rfl ?_
  exact LPost.no O3.B
set_option maxRecDepth 100000 in
set_option maxHeartbeats 2000000 in
theorem list9_empty (t x : T) (i : Nat) (s : ByteArray) (g o c m : Nat) (w : World) (hm : t.count = m + 1) (h1 : m < 1000) (hc : m + 1 ≤ c) (ht : AtomsO w g o t.atoms) (hga : getAt t.ks s = some i) (hx : t.ks[i + 1]? = some x) (hk : x.kind = 5) (h0 : x.ks.length = 0) : Calls Tryz.prog 37 #[.agg #[.slice (some ⟨g, o, none⟩) (m + 1) c], .string s, .bool true] w (LPost w none) := by
  have HG := hide (fun w1 (hb : Below w.heap.size w w1) => get5_any t s g o c m w1 hm h1 hc (ht.below hb))
  have hE := hide (T.count_eq t)
  have HM := hide hm
  clear ht hm
  have o0 := IB.start w (.slice (some ⟨g, o, none⟩) (m + 1) c)
  have R0 : Hid (((w.alloc (.cells #[.slice (some ⟨g, o, none⟩) (m + 1) c] 45)).alloc (.cells #[] 9)).ownsRow w.heap.size 9 1 (.slice (some ⟨w.heap.size + 1, 0, none⟩) 0 0) 0 []) := hide (by
    have h := World.ownsRow_lit (base := w.heap.size) (e := 9) (size := 1) (w.alloc (.cells #[.slice (some ⟨g, o, none⟩) (m + 1) c] 45)) #[] 0 (by simp) (Nat.zero_le _) rfl
    rw [World.size_alloc] at h
    exact h)
  go_enter Tryz.func37, Tryz.ntmps37
  go_wp2_with fail
  refine (HG.out _ o0.B).mono ?_
  rintro e w1 ⟨hb1, hgp⟩
  have O1 := o0.below hb1
  rw [hga] at hgp
  obtain ⟨hi, gx, ox, cx, rfl, hatx, hcx⟩ := hgp
  have hxe : t.ks[i + 1] = x := by rw [List.getElem?_eq_getElem hi] at hx; exact Option.some.inj hx
  have hsx := count_mem t.ks (i + 1) hi
  rw [hxe] at hatx hcx hsx ⊢
  obtain ⟨mx, hmx⟩ : ∃ mx, x.count = mx + 1 := ⟨x.count - 1, by have := atoms_pos x; unfold T.count; omega⟩
  have hmx1 : mx < 1000 := by have := hE.out; have := HM.out; omega
  rw [hmx]
  have r1 : Below w1.heap.size w1 (w1.alloc (.cells #[.slice (some ⟨gx, ox, none⟩) (mx + 1) cx] 45)) := (Below.refl _ _).alloc (Nat.le_refl _) _
  have X1 := hide (XB.new (.slice (some ⟨gx, ox, none⟩) (mx + 1) cx) 45 O1.B)
  have HKD := hide (fun w2 (hb : Below w1.heap.size w1 w2) => kids5_any x.atoms gx ox cx mx w2 hmx (by omega) (hatx.below hb) (by omega))
  have HKA := hide (fun w2 (hb : Below w1.heap.size w1 w2) => kind6_any ⟨x.kind, x.num, x.text, x.ks.length⟩ x.atoms gx ox cx mx w2 hmx (by omega) (atoms_last _ mx hmx) (hatx.below hb))
  have O1a := O1.below r1
  have c1 := X1.out.c
  go_wp2_with fail
  refine (HKD.out _ r1).mono ?_
  rintro e w2 ⟨g7, c7, nk, vs, ok, rfl, ⟨hyes, -⟩, hb2⟩
  obtain ⟨rfl, rfl, hown, hkids⟩ := hyes x (treeOf_atoms x)
  have O2 := O1a.below hb2
  have X2 := X1.out.below hb2
  have c2 := X2.c
  have r2 := r1.trans (hb2.mono r1.size)
  have HOA := hide hown
  have HKI := hide hkids
  clear hown hkids hyes
  go_wp2_with fail
  refine (HKA.out _ r2).mono ?_
  rintro e w3 ⟨rfl, hb3⟩
  have O3 := O2.below hb3
  have hkn : (x.kind != 5) = false := by simpa using hk
  have h0i : (x.ks.length : Int) = 0 := by omega
  go_wp2
  refine bodyPost_ret (v := .tuple #[.slice (some ⟨w.heap.size + 1, 0, none⟩) 0 0, .bool false]) (by simp [results, Tryz.results37, go_sem]) rfl ?_
  exact LPost.no O3.B
set_option maxRecDepth 100000 in
set_option maxHeartbeats 2000000 in
theorem list9_loop (t x : T) (i : Nat) (s : ByteArray) (need : Bool) (g o c m : Nat) (w : World) (hm : t.count = m + 1) (h1 : m < 1000) (hc : m + 1 ≤ c) (ht : AtomsO w g o t.atoms) (hga : getAt t.ks s = some i) (hx : t.ks[i + 1]? = some x) (hk : x.kind = 5) (hnd : ¬ (need = true ∧ x.ks.length = 0)) (r : Option (List ByteArray)) (hr0 : allT x.ks = false → r = none) (hr1 : allT x.ks = true → r = some (x.ks.map T.text)) : Calls Tryz.prog 37 #[.agg #[.slice (some ⟨g, o, none⟩) (m + 1) c], .string s, .bool need] w (LPost w r) := by
  have HR0 := hide hr0
  have HR1 := hide hr1
  clear hr0 hr1
  obtain ⟨iS, hS, hSz, hSs, hSb⟩ := info_parts Tryz.infoStr
  have HG := hide (fun w1 (hb : Below w.heap.size w w1) => get5_any t s g o c m w1 hm h1 hc (ht.below hb))
  have hE := hide (T.count_eq t)
  have HM := hide hm
  clear ht hm
  have o0 := IB.start w (.slice (some ⟨g, o, none⟩) (m + 1) c)
  have R0 : Hid (((w.alloc (.cells #[.slice (some ⟨g, o, none⟩) (m + 1) c] 45)).alloc (.cells #[] 9)).ownsRow w.heap.size 9 1 (.slice (some ⟨w.heap.size + 1, 0, none⟩) 0 0) 0 []) := hide (by
    have h := World.ownsRow_lit (base := w.heap.size) (e := 9) (size := 1) (w.alloc (.cells #[.slice (some ⟨g, o, none⟩) (m + 1) c] 45)) #[] 0 (by simp) (Nat.zero_le _) rfl
    rw [World.size_alloc] at h
    exact h)
  go_enter Tryz.func37, Tryz.ntmps37
  go_wp2_with fail
  refine (HG.out _ o0.B).mono ?_
  rintro e w1 ⟨hb1, hgp⟩
  have O1 := o0.below hb1
  rw [hga] at hgp
  obtain ⟨hi, gx, ox, cx, rfl, hatx, hcx⟩ := hgp
  have hxe : t.ks[i + 1] = x := by rw [List.getElem?_eq_getElem hi] at hx; exact Option.some.inj hx
  have hsx := count_mem t.ks (i + 1) hi
  rw [hxe] at hatx hcx hsx ⊢
  obtain ⟨mx, hmx⟩ : ∃ mx, x.count = mx + 1 := ⟨x.count - 1, by have := atoms_pos x; unfold T.count; omega⟩
  have hmx1 : mx < 1000 := by have := hE.out; have := HM.out; omega
  rw [hmx]
  have r1 : Below w1.heap.size w1 (w1.alloc (.cells #[.slice (some ⟨gx, ox, none⟩) (mx + 1) cx] 45)) := (Below.refl _ _).alloc (Nat.le_refl _) _
  have X1 := hide (XB.new (.slice (some ⟨gx, ox, none⟩) (mx + 1) cx) 45 O1.B)
  have HKD := hide (fun w2 (hb : Below w1.heap.size w1 w2) => kids5_any x.atoms gx ox cx mx w2 hmx (by omega) (hatx.below hb) (by omega))
  have HKA := hide (fun w2 (hb : Below w1.heap.size w1 w2) => kind6_any ⟨x.kind, x.num, x.text, x.ks.length⟩ x.atoms gx ox cx mx w2 hmx (by omega) (atoms_last _ mx hmx) (hatx.below hb))
  have O1a := O1.below r1
  have c1 := X1.out.c
  go_wp2_with fail
  refine (HKD.out _ r1).mono ?_
  rintro e w2 ⟨g7, c7, nk, vs, ok, rfl, ⟨hyes, -⟩, hb2⟩
  obtain ⟨rfl, rfl, hown, hkids⟩ := hyes x (treeOf_atoms x)
  have O2 := O1a.below hb2
  have X2 := X1.out.below hb2
  have c2 := X2.c
  have r2 := r1.trans (hb2.mono r1.size)
  have HOA := hide hown
  have HKI := hide hkids
  clear hown hkids hyes
  go_wp2_with fail
  refine (HKA.out _ r2).mono ?_
  rintro e w3 ⟨rfl, hb3⟩
  have O3 := O2.below hb3
  have hkn : (x.kind != 5) = false := by simpa using hk
  have hks : x.ks.length ≤ 1000 := by have := len_le_atomsL x.ks; have := T.count_eq x; omega
  have R1 := hide (row_belowY (row_belowY R0.out hb1) (r2.trans (hb3.mono r2.size)))
  have HO3 := hide O3
  have HOA3 := hide (row_belowY HOA.out hb3)
  have HKI3 := hide (HKI.out.below hb3)
  have hg7 : g7 < w3.heap.size := (HOA3.out.lt g7 rfl).2
  have hg7b : w1.heap.size + 1 ≤ g7 := by have h := (HOA.out.lt g7 rfl).1; rw [World.size_alloc] at h; exact h
  have hz1 : w.heap.size + 1 < w1.heap.size := O1.z
  have HGO : Hid (∀ j (h : j < x.ks.length), ∃ gy oy cy my, vs[j]? = some (.slice (some ⟨gy, oy, none⟩) (my + 1) cy) ∧ (x.ks[j]).count = my + 1 ∧ my < 1000 ∧ AtomsO w3 gy oy (x.ks[j]).atoms ∧ gy ≠ w.heap.size + 1) := hide (fun j h => by
    obtain ⟨gy, oy, cy, q1, q2, _⟩ := HKI3.out.2 j h
    have hp := atoms_pos x.ks[j]
    have hq := count_mem x.ks j h
    have hcx := T.count_eq x
    refine ⟨gy, oy, cy, (x.ks[j]).count - 1, ?_, by unfold T.count; omega, by omega, q2, q2.off hp O3.k⟩
    rw [q1, show (x.ks[j]).count - 1 + 1 = (x.ks[j]).count from by unfold T.count; omega])
  clear HOA HKI hatx hsx hx hxe hga hb1 hb2 hb3 O1 O1a O2 O3 X1 X2 HKD HKA r1 r2 R0 HG hE HM HKI3 c1 c2
  have hn0 : need = true → ¬ ((x.ks.length : Int) = 0) := by intro h1 h2; exact hnd ⟨h1, by omega⟩
  have hB3 := HO3.out.B
  have hz3 := HO3.out.z
  have hnl : need = true → ((x.ks.length : Int) == 0) = false := fun h => by simpa using hn0 h
  have hnd2 : need = true → decide ((x.ks.length : Int) = 0) = false := fun h => decide_eq_false (hn0 h)
  cases need
  all_goals
    try have hq0 := hn0 rfl
    try have hq1 := hnl rfl
    try have hq2 := hnd2 rfl
    try clear hn0 hnl hnd2 hnd
    go_wp2
    go_loopw [8, 13] (fun u q wr => ∃ (i : Nat) (p : Option Addr) (cc : Nat), i ≤ x.ks.length ∧ q = .int .i64 i ∧ u = .slice p i cc ∧ wr.ownsRow w.heap.size 9 1 (.slice p i cc) i (cellsT ((x.ks.map T.text).take i)) ∧ (∀ b, (Value.slice p i cc).ownBlock = some b → b = w.heap.size + 1 ∨ w3.heap.size ≤ b) ∧ But (w.heap.size + 1) w3 wr ∧ ∀ j (h : j < x.ks.length), j < i → (x.ks[j]).kind = 4 ∧ (x.ks[j]).text ≠ ⟨#[]⟩) (fun _ q _ => x.ks.length - (intOf q).toNat)
    case atStart => exact ⟨0, _, _, Nat.zero_le _, rfl, rfl, R1.out, fun b h => by cases h; exact .inl rfl, But.refl _ _, fun j _ h => absurd h (Nat.not_lt_zero _)⟩
    case round =>
      obtain ⟨i, p, cc, hi, rfl, rfl, hrow, hob, hbut, hall⟩ := hrel
      have HR := hide hrow
      have HOB := hide hob
      have HBU := hide hbut
      have HAL := hide hall
      have hzr := hbut.size
      clear hrow hob hbut hall
      by_cases hlt : i < x.ks.length
      · obtain ⟨gy, oy, cy, my, hv, hmy, hmy1, hat, hne⟩ := HGO.out i hlt
        have kx := (HBU.out.cell (p := ⟨g7, i, none⟩) hg7 (by show g7 ≠ _; omega)).trans ((HOA3.out.cellAt i (by omega)).trans hv)
        have HAT := hide (hat.but HBU.out hne)
        have HLA := hide (fun w' (hb : Below wr.heap.size wr w') => last_any ⟨(x.ks[i]).kind, (x.ks[i]).num, (x.ks[i]).text, (x.ks[i]).ks.length⟩ (x.ks[i]).atoms gy oy cy my w' hmy (by omega) (atoms_last _ my hmy) (HAT.out.below hb))
        have HKA := hide (fun w' (hb : Below wr.heap.size wr w') => kind6_any ⟨(x.ks[i]).kind, (x.ks[i]).num, (x.ks[i]).text, (x.ks[i]).ks.length⟩ (x.ks[i]).atoms gy oy cy my w' hmy (by omega) (atoms_last _ my hmy) (HAT.out.below hb))
        have HKX := hide (fun w' (hb : Below wr.heap.size wr w') => (hb.cell (p := ⟨g7, i, none⟩) (show g7 < wr.heap.size by omega)).trans kx)
        have HF := fun w => fld2' (x.ks[i]).kind (x.ks[i]).num (x.ks[i]).ks.length (x.ks[i]).text w
        have HTK : Hid ((x.ks.map T.text).take (i + 1) = (x.ks.map T.text).take i ++ [(x.ks[i]).text]) := hide (by rw [List.take_succ_eq_append_getElem (by simpa using hlt)]; simp)
        have HBAD : Hid (¬ ((x.ks[i]).kind = 4 ∧ (x.ks[i]).text ≠ ⟨#[]⟩) → allT x.ks = false) := hide (allT_drop x.ks i hlt)
        have HGOOD : Hid ((x.ks[i]).kind = 4 ∧ (x.ks[i]).text ≠ ⟨#[]⟩ → ∀ j (h : j < x.ks.length), j < i + 1 → (x.ks[j]).kind = 4 ∧ (x.ks[j]).text ≠ ⟨#[]⟩) := hide (fun hg j h hj => by
          by_cases e : j = i
          · subst e; exact hg
          · exact HAL.out j h (by omega))
        have hbe := ba_eq (x.ks[i]).text ⟨#[]⟩
        clear hat hmy hv
        generalize (x.ks[i]).kind = kk at *
        generalize (x.ks[i]).num = nn at *
        generalize ((x.ks[i]).ks.length : Int) = ll at *
        generalize (x.ks[i]).text = tx at *
        go_wp2_with fail
        refine (HKA.out _ (Below.refl _ _)).mono ?_
        rintro e w4 ⟨rfl, hb4⟩
        have k4 := HKX.out _ hb4
        by_cases hk4 : kk = 4
        · subst hk4
          go_wp2_with fail
          refine (HLA.out _ hb4).mono ?_
          rintro e w5 ⟨rfl, hb5⟩
          have hb5' := hb4.trans (hb5.mono hb4.size)
          have k5 := HKX.out _ hb5'
          by_cases he : tx = ⟨#[]⟩
          · have HA := HBAD.out (fun h => h.2 he)
            subst he
            go_wp2
            refine bodyPost_ret (v := .tuple #[.slice p i cc, .bool false]) (by simp [results, Tryz.results37, go_sem]) rfl ?_
            rw [HR0.out HA]
            exact LPost.no ((HBU.out.below hb5').out HO3.out.B (by omega) (by omega))
          · rw [decide_eq_false he] at hbe
            have hb1 : (tx.toList == []) = false := by have h := hbe; rw [Lib.toList_data ⟨#[]⟩] at h; exact h
            have hnil : ¬ tx.toList = [] := by have h := hbe; rw [Lib.toList_data ⟨#[]⟩] at h; simpa using h
            go_wp2_with fail
            refine (HLA.out _ hb5').mono ?_
            rintro e w6 ⟨rfl, hb6⟩
            have hb6' := hb5'.trans (hb6.mono hb5'.size)
            have hz6 := hb6'.size
            have HR6 := hide (row_belowY HR.out hb6')
            have HB6 := hide (HBU.out.below hb6')
            go_wp2_with (at_builtin; refine wpList_append_own_at _ rfl _ _ 41 rfl w.heap.size 9 iS _ 1 16 Tryz.underlying41 hS hSz hSs hSb rfl (by decide) (.slice p i cc) i (cellsT ((x.ks.map T.text).take i)) rfl (HR6.out.alloc _) ⟨w6.heap.size, 0, none⟩ 1 1 [.string tx] rfl rfl (cell_one _ _ _) (by simp [Value.oneCell']) (by unfold maxLen; omega) (by omega) (by simp; omega) ?_)
            intro v7 w7 ho7 hg7' hn7 hb7
            have HB7 := hide ((HB6.out.below ((Below.refl _ _).alloc (Nat.le_refl _) _)).grown hg7' HOB.out)
            rw [show cellsT ((x.ks.map T.text).take i) ++ [Value.string tx] = cellsT ((x.ks.map T.text).take (i + 1)) from by rw [HTK.out]; simp [cellsT]] at ho7
            obtain ⟨p7, c7', rfl⟩ := row_form ho7
            have HR7 := hide ho7
            have HOB7 : Hid (∀ b, (Value.slice p7 (i + 1) c7').ownBlock = some b → b = w.heap.size + 1 ∨ w3.heap.size ≤ b) := hide (fun b hb => by
              rcases hb7 with h | h
              · exact HOB.out b (h ▸ hb)
              · rw [h] at hb; cases hb; right; first | omega | (simp; omega) | (simp only [World.size_alloc]; omega))
            clear ho7 hg7' hn7 hb7
            go_wp2
            go_roundw
            case rel => exact ⟨i + 1, p7, c7', by omega, by go_num, rfl, HR7.out, HOB7.out, HB7.out, HGOOD.out ⟨by simp, he⟩⟩
            case measure => simp [intOf]; omega
        · have hk4b : (kk != 4) = true := by simpa using hk4
          have HA := HBAD.out (fun h => hk4 h.1)
          go_wp2
          refine bodyPost_ret (v := .tuple #[.slice p i cc, .bool false]) (by simp [results, Tryz.results37, go_sem]) rfl ?_
          rw [HR0.out HA]
          exact LPost.no ((HBU.out.below hb4).out HO3.out.B (by omega) (by omega))
      · obtain rfl : i = x.ks.length := by omega
        have HA := allT_all x.ks (fun j h => HAL.out j h h)
        go_wp2
        refine bodyPost_ret (v := .tuple #[.slice p x.ks.length cc, .bool true]) (by simp [results, Tryz.results37, go_sem]) rfl ?_
        rw [HR1.out HA]
        refine ⟨HBU.out.out HO3.out.B (by omega) (by omega), _, _, _, rfl, fun l h => ?_⟩
        cases h
        have h7 := HR.out
        rw [List.take_of_length_le (by simp)] at h7
        exact ⟨by simp, h7⟩
theorem list9_any (t : T) (s : ByteArray) (need : Bool) (g o c m : Nat) (w : World) (hm : t.count = m + 1) (h1 : m < 1000) (hc : m + 1 ≤ c) (ht : AtomsO w g o t.atoms) : Calls Tryz.prog 37 #[.agg #[.slice (some ⟨g, o, none⟩) (m + 1) c], .string s, .bool need] w (LPost w (list9 t.ks s need)) := by
  unfold list9
  cases hga : getAt t.ks s with
  | none => exact list9_none t s need g o c m w hm h1 hc ht hga _ (fun h => by simp [h]) (fun h => by simp [h])
  | some i =>
    have hi : i + 1 < t.ks.length := getAt_lt hga
    have hx := List.getElem?_eq_getElem hi
    simp only [hx]
    by_cases hk : (t.ks[i + 1]).kind = 5
    · by_cases h0 : need = true ∧ (t.ks[i + 1]).ks.length = 0
      · rw [if_neg (fun h => h.2.1 h0)]
        obtain ⟨rfl, h0⟩ := h0
        exact list9_empty t _ i s g o c m w hm h1 hc ht hga hx hk h0
      · exact list9_loop t _ i s need g o c m w hm h1 hc ht hga hx hk h0 _ (fun h => if_neg (fun q => by rw [h] at q; cases q.2.2)) (fun h => if_pos ⟨hk, h0, h⟩)
    · rw [if_neg (fun h => hk h.1)]
      exact list9_bad t _ i s need g o c m w hm h1 hc ht hga hx hk
end Go.Proofs.YtmpjdooepdicoaaGreatDoor.Vl
