/- Targets, the program's side: one value read. -/
import Derived.Test.YtmpjdooepdicoaaGreatDoorBh
namespace Go.Proofs.YtmpjdooepdicoaaGreatDoor.Vl
open Go.RowKit T.atoms T.ok T.high T.good T.allPlain DatAt

theorem lookF_mem : ∀ {ks : List T} {s : ByteArray} {b : T}, lookF ks s = some b → b ∈ ks
  | [], _, _, h => by cases h
  | [_], _, _, h => by cases h
  | a :: c :: r, s, b, h => by
    rw [lookF] at h
    by_cases e : a.text = s
    · rw [if_pos e] at h; cases h; exact List.mem_cons_of_mem _ (List.mem_cons_self ..)
    · rw [if_neg e] at h; exact List.mem_cons_of_mem _ (List.mem_cons_of_mem _ (lookF_mem h))
theorem text_small {b : T} (h : b.good = true) (hk : b.kind = 4) : b.text.size ≤ 1000 := by
  rw [T.good_eq] at h
  simp only [Bool.and_eq_true] at h
  have hp := h.1.1
  unfold plain at hp
  simp [hk] at hp
  omega
theorem nm_small {o : Option T} {n : ByteArray} {need : Bool} (ho : ∀ b, o = some b → b.good = true) (h : txN o need = (n, true)) : n.size ≤ 1000 := by
  cases o with
  | none =>
    have e : n = ⟨#[]⟩ := (congrArg Prod.fst h).symm
    rw [e]; exact Nat.zero_le _
  | some b =>
    have e1 : b.text = n := congrArg Prod.fst h
    have e2 : (decide (b.kind = 4) && (!need || !decide (b.text = ⟨#[]⟩))) = true := congrArg Prod.snd h
    rw [Bool.and_eq_true, decide_eq_true_eq] at e2
    rw [← e1]
    exact text_small (ho b rfl) e2.1
theorem pl_small {o : Option T} {l : List ByteArray} {need : Bool} (ho : ∀ b, o = some b → b.good = true) (h : plN o need = some l) : ∀ s ∈ l, s.size ≤ 1000 := by
  cases o with
  | none =>
    cases need
    · have e : [] = l := Option.some.inj h
      subst e
      intro s hs; cases hs
    · cases h
  | some b =>
    have e2 : ((placesI b).bind fun l => if need = true ∧ l.length = 0 then none else some l) = some l := h
    cases hp : placesI b with
    | none => rw [hp] at e2; cases e2
    | some l' =>
      rw [hp, Option.bind_some] at e2
      have hl : l' = l := by
        by_cases q : need = true ∧ l'.length = 0
        · rw [if_pos q] at e2; cases e2
        · rw [if_neg q] at e2; exact Option.some.inj e2
      subst hl
      rw [placesI_eq] at hp
      by_cases q : b.kind = 5 ∧ allT b.ks = true
      · rw [if_pos q] at hp
        cases hp
        intro s hs
        obtain ⟨k, hk, rfl⟩ := List.mem_map.1 hs
        have ha := q.2
        unfold allT at ha
        rw [List.all_eq_true] at ha
        have := ha k hk
        rw [Bool.and_eq_true, decide_eq_true_eq] at this
        have hg := ho b rfl
        rw [T.good_eq, Bool.and_eq_true] at hg
        exact text_small (goodL_mem _ hg.2 k hk) this.1
      · rw [if_neg q] at hp; cases hp
theorem target_small {t : T} {x : Tg} (hg : t.good = true) (h : target9 t = some x) : x.name.size ≤ 1000 ∧ (∀ s ∈ x.ins, s.size ≤ 1000) ∧ ∀ s ∈ x.outs, s.size ≤ 1000 := by
  have hgl : ∀ s b, lookF t.ks s = some b → b.good = true := fun s b hb => by
    rw [T.good_eq, Bool.and_eq_true] at hg
    exact goodL_mem _ hg.2 b (lookF_mem hb)
  unfold target9 at h
  split at h
  · simp only [text9_look, list9_look] at h
    split at h
    · rename_i hA hB hC hD hE
      cases h
      exact ⟨nm_small (hgl _) hA, pl_small (hgl _) hD, pl_small (hgl _) hE⟩
    · cases h
  · cases h
/-- All blocks but those of P are as they were. -/
structure Mv (P : Nat → Prop) (w w' : World) : Prop where
  os : w'.os = w.os
  tape : w'.tape = w.tape
  output : w'.output = w.output
  size : w.heap.size ≤ w'.heap.size
  block : ∀ q, q < w.heap.size → ¬ P q → w'.heap[q]? = w.heap[q]?
theorem Mv.below {P : Nat → Prop} {w w' : World} (hb : Below w.heap.size w w') : Mv P w w' := ⟨hb.os, hb.tape, hb.output, hb.size, fun q hq _ => hb.block q hq⟩
theorem Mv.grown {P : Nat → Prop} {w w' : World} {r : Option Nat} (hg : w.grownBy w' r) (hP : ∀ q, r = some q → P q) : Mv P w w' := ⟨hg.os, hg.tape, hg.output, hg.size, fun q hq hn => hg.block q hq (fun e => hn (hP q e.symm))⟩
theorem Mv.set {P : Nat → Prop} (w : World) (b j : Nat) (v : Value) (hP : P b) : Mv P w (w.setCell ⟨b, j, none⟩ v) := Mv.grown (grown_set w b j v) (fun q e => by cases e; exact hP)
theorem Mv.trans {P Q R : Nat → Prop} {a b c : World} (h : Mv P a b) (k : Mv Q b c) (hP : ∀ q, q < a.heap.size → P q → R q) (hQ : ∀ q, q < a.heap.size → Q q → R q) : Mv R a c :=
  ⟨k.os.trans h.os, k.tape.trans h.tape, k.output.trans h.output, Nat.le_trans h.size k.size, fun q hq hn => (k.block q (Nat.lt_of_lt_of_le hq h.size) (fun e => hn (hQ q hq e))).trans (h.block q hq (fun e => hn (hP q hq e)))⟩
theorem Mv.cell {P : Nat → Prop} {w w' : World} (h : Mv P w w') {b : Nat} (j : Nat) (hb : b < w.heap.size) (hn : ¬ P b) : w'.cell? ⟨b, j, none⟩ = w.cell? ⟨b, j, none⟩ := World.cell?_of_block (a := ⟨b, j, none⟩) (h.block b hb hn)
theorem Mv.froz {P : Nat → Prop} {w w' : World} (h : Mv P w w') {b : Nat} (j : Nat) (hb : b < w.heap.size) (hn : ¬ P b) : w'.frozen? ⟨b, j, none⟩ = w.frozen? ⟨b, j, none⟩ := World.frozen?_of_block (a := ⟨b, j, none⟩) (h.block b hb hn)
def isB (a b : Nat) (q : Nat) : Prop := q = a ∨ q = b
/-- read's boxes: the planner's, the value's, the answer's. -/
structure RB (w : World) (bn bo : Nat) (W : World) : Prop where
  T : Mv (isB bn bo) w W
  m0 : W.cell? ⟨w.heap.size, 0, none⟩ = some (.map (some bn))
  m1 : W.cell? ⟨w.heap.size, 1, none⟩ = some (.map (some bo))
  y : ∀ j, j < 5 → W.cell? ⟨w.heap.size + 1 + 1, j, none⟩ = #[Value.string ⟨#[]⟩, .string ⟨#[]⟩, .string ⟨#[]⟩, .slice none 0 0, .slice none 0 0][j]?
  g : ∀ j, W.frozen? ⟨w.heap.size + 1 + 1, j, none⟩ = false
  z : w.heap.size + 1 + 1 < W.heap.size
theorem RB.mv {w W W' : World} {bn bo : Nat} {P : Nat → Prop} (h : RB w bn bo W) (hm : Mv P W W') (hP : ∀ q, P q → isB bn bo q ∨ w.heap.size + 1 + 1 < q) (hn : bn < w.heap.size) (ho : bo < w.heap.size) : RB w bn bo W' := by
  have hz := h.z
  have np : ∀ b, w.heap.size ≤ b → b ≤ w.heap.size + 1 + 1 → ¬ P b := fun b h1 h2 e => by
    rcases hP b e with (q | q) | q <;> omega
  have e : ∀ b j, w.heap.size ≤ b → b ≤ w.heap.size + 1 + 1 → W'.cell? ⟨b, j, none⟩ = W.cell? ⟨b, j, none⟩ := fun b j h1 h2 => hm.cell j (by omega) (np b h1 h2)
  have f : ∀ b j, w.heap.size ≤ b → b ≤ w.heap.size + 1 + 1 → W'.frozen? ⟨b, j, none⟩ = W.frozen? ⟨b, j, none⟩ := fun b j h1 h2 => hm.froz j (by omega) (np b h1 h2)
  exact ⟨h.T.trans hm (fun q _ e => e) (fun q hq e => (hP q e).resolve_right (by omega)), (e _ _ (by omega) (by omega)).trans h.m0, (e _ _ (by omega) (by omega)).trans h.m1, fun j hj => (e _ _ (by omega) (by omega)).trans (h.y j hj), fun j => (f _ _ (by omega) (by omega)).trans (h.g j), Nat.lt_of_lt_of_le hz hm.size⟩
theorem RB.start (w : World) (bn bo : Nat) (v : Value) : RB w bn bo (((w.alloc (.cells #[.map (some bn), .map (some bo)] 92)).alloc (.cells #[v] 45)).alloc (.cells #[.string ⟨#[]⟩, .string ⟨#[]⟩, .string ⟨#[]⟩, .slice none 0 0, .slice none 0 0] 49)) := by
  have k : ∀ (X : World) (o : Array Value) (t : TypeId) j, (X.alloc (.cells o t)).cell? ⟨X.heap.size, j, none⟩ = o[j]? := fun X o t j => by simp
  have kf : ∀ (X : World) (o : Array Value) (t : TypeId) j, (X.alloc (.cells o t)).frozen? ⟨X.heap.size, j, none⟩ = false := fun X o t j => by simp
  have n1 : ∀ (X : World) (o : Obj) (b j : Nat), b < X.heap.size → (X.alloc o).cell? ⟨b, j, none⟩ = X.cell? ⟨b, j, none⟩ := fun X o b j hb => ((Below.refl X.heap.size X).alloc (Nat.le_refl _) o).cell (p := ⟨b, j, none⟩) hb
  generalize hX : w.alloc (.cells #[.map (some bn), .map (some bo)] 92) = X
  have sX : X.heap.size = w.heap.size + 1 := by rw [← hX, World.size_alloc]
  generalize hY : X.alloc (.cells #[v] 45) = Y
  have sY : Y.heap.size = w.heap.size + 1 + 1 := by rw [← hY, World.size_alloc, sX]
  refine ⟨?_, ?_, ?_, fun j hj => ?_, fun j => ?_, by rw [World.size_alloc, sY]; omega⟩
  · rw [← hY, ← hX]; exact Mv.below ((((Below.refl _ _).alloc (Nat.le_refl _) _).alloc (by simp) _).alloc (by simp; omega) _)
  · rw [n1 Y _ _ _ (by omega), ← hY, n1 X _ _ _ (by omega), ← hX]; exact k _ _ _ _
  · rw [n1 Y _ _ _ (by omega), ← hY, n1 X _ _ _ (by omega), ← hX]; exact k _ _ _ _
  · rw [← sY]; exact k _ _ _ _
  · rw [← sY]; exact kf _ _ _ _
theorem RB.ans {w W : World} {bn bo : Nat} (h : RB w bn bo W) :
    (W.cell? ⟨w.heap.size + 1 + 1, 0, none⟩ = some (.string ⟨#[]⟩) ∧ W.cell? ⟨w.heap.size + 1 + 1, 1, none⟩ = some (.string ⟨#[]⟩) ∧ W.cell? ⟨w.heap.size + 1 + 1, 2, none⟩ = some (.string ⟨#[]⟩) ∧ W.cell? ⟨w.heap.size + 1 + 1, 3, none⟩ = some (.slice none 0 0) ∧ W.cell? ⟨w.heap.size + 1 + 1, 4, none⟩ = some (.slice none 0 0)) ∧
    (W.frozen? ⟨w.heap.size + 1 + 1, 0, none⟩ = false ∧ W.frozen? ⟨w.heap.size + 1 + 1, 1, none⟩ = false ∧ W.frozen? ⟨w.heap.size + 1 + 1, 2, none⟩ = false ∧ W.frozen? ⟨w.heap.size + 1 + 1, 3, none⟩ = false ∧ W.frozen? ⟨w.heap.size + 1 + 1, 4, none⟩ = false) :=
  ⟨⟨h.y 0 (by omega), h.y 1 (by omega), h.y 2 (by omega), h.y 3 (by omega), h.y 4 (by omega)⟩, ⟨h.g 0, h.g 1, h.g 2, h.g 3, h.g 4⟩⟩
/-- The frame, behind stores into the answer's box. -/
theorem RB.put {w W : World} {bn bo : Nat} (h : Mv (isB bn bo) w W) (j : Nat) (v : Value) : Mv (isB bn bo) w (W.setCell ⟨w.heap.size + 1 + 1, j, none⟩ v) :=
  h.trans (Q := fun q => q = w.heap.size + 1 + 1) (Mv.set _ _ _ _ rfl) (fun _ _ e => e) (fun q hq e => by omega)
theorem SR.map {B b n : Nat} {R : List (Value × List ByteArray)} {acc : List ByteArray} {W W' : World} (h : SR B R W) (hs : SetAt W b n acc) (hg : W.grownBy W' (some b)) : SR B R W' :=
  ⟨fun r hr => row_keptY (h.own r hr) hg (fun q hq e => by
    cases e
    obtain ⟨cs, fr, h1⟩ := own_cells (h.own r hr) hq
    obtain ⟨es, clock, hb, _⟩ := hs
    rw [h1] at hb
    cases hb), h.sep⟩
theorem SetAt.set {W : World} {b n c j : Nat} {acc : List ByteArray} (h : SetAt W b n acc) (hb : b ≠ c) (v : Value) : SetAt (W.setCell ⟨c, j, none⟩ v) b n acc := World.ownsMap.setCell h hb v
/-- A box of five cells. -/
structure X5 (b : Nat) (v0 v1 v2 v3 v4 : Value) (W : World) : Prop where
  c0 : W.cell? ⟨b, 0, none⟩ = some v0
  c1 : W.cell? ⟨b, 1, none⟩ = some v1
  c2 : W.cell? ⟨b, 2, none⟩ = some v2
  c3 : W.cell? ⟨b, 3, none⟩ = some v3
  c4 : W.cell? ⟨b, 4, none⟩ = some v4
  z : b < W.heap.size
theorem X5.mv {b : Nat} {v0 v1 v2 v3 v4 : Value} {W W' : World} {P : Nat → Prop} (h : X5 b v0 v1 v2 v3 v4 W) (hm : Mv P W W') (hn : ¬ P b) : X5 b v0 v1 v2 v3 v4 W' :=
  ⟨(hm.cell 0 h.z hn).trans h.c0, (hm.cell 1 h.z hn).trans h.c1, (hm.cell 2 h.z hn).trans h.c2, (hm.cell 3 h.z hn).trans h.c3, (hm.cell 4 h.z hn).trans h.c4, Nat.lt_of_lt_of_le h.z hm.size⟩
theorem X5.new (W : World) (v0 v1 v2 v3 v4 : Value) (t : TypeId) : X5 W.heap.size v0 v1 v2 v3 v4 (W.alloc (.cells #[v0, v1, v2, v3, v4] t)) :=
  ⟨by simp, by simp, by simp, by simp, by simp, by simp⟩
theorem new_cellI (X : World) (o : Array Value) (ty : TypeId) (b j : Nat) (hb : X.heap.size = b) : (X.alloc (.cells o ty)).cell? ⟨b, j, none⟩ = o[j]? := by subst hb; simp
/-- What read hands back. -/
def RPost (w : World) (bn bo nn no : Nat) (names outs : List ByteArray) (s : Int × Option Tg) (e : Ending) (w' : World) : Prop := Mv (isB bn bo) w w' ∧ match s with
  | (k, none) => e = .returned (.tuple #[.agg #[.string ⟨#[]⟩, .string ⟨#[]⟩, .string ⟨#[]⟩, .slice none 0 0, .slice none 0 0], .iface 63 (.agg #[.int .i64 k])])
  | (_, some x) => ∃ vi vo, e = .returned (.tuple #[.agg #[.string x.name, .string x.tool, .string x.arg, vi, vo], .nilIface]) ∧ SR w.heap.size [(vi, sortS x.ins), (vo, sortS x.outs)] w' ∧ SetAt w' bn (nn + 1) (names ++ [x.name]) ∧ SetAt w' bo (no + x.outs.length) (outs ++ x.outs)
set_option maxRecDepth 100000 in
set_option maxHeartbeats 1000000 in
theorem targetOf_any (t : T) (v : Value) (X : Nat) (w : World) (hc : t.count ≤ 1000) (h : DatAt w X t v) : Calls Tryz.prog 56 #[v] w (TPostI w (targetI t)) := by
  unfold targetI
  rcases dat_rec h with ⟨hk, p, c, m, vs, a, d, hm, rfl, hL, hR⟩ | ⟨hk, y, u, rfl, hy⟩
  · rw [if_pos hk]
    exact targetOf_rec t.ks m vs p c X a d w hm (by have := T.count_eq t; omega) hL hR _ rfl
  · rw [if_neg hk]
    have ht := fun w => ta_rec_no y u w hy
    clear h
    have k : ∀ (X : World) (o : Array Value) (t : TypeId) j, (X.alloc (.cells o t)).cell? ⟨X.heap.size, j, none⟩ = o[j]? := fun X o t j => by simp
    have b0 : Below w.heap.size w ((w.alloc (.cells #[.string ⟨#[]⟩, .string ⟨#[]⟩, .string ⟨#[]⟩, .slice none 0 0, .slice none 0 0] 49)).alloc (.cells #[.slice none 0 0, .int .i64 0, .int .i64 0] 164)) := ((Below.refl _ _).alloc (Nat.le_refl _) _).alloc (by simp) _
    go_enter Tryz.func56, Tryz.ntmps56
    go_wp2
    refine bodyPost_ret (v := .tuple #[.agg #[.string ⟨#[]⟩, .string ⟨#[]⟩, .string ⟨#[]⟩, .slice none 0 0, .slice none 0 0], .bool false]) (by simp [results, Tryz.results56, go_sem]) rfl ?_
    refine TPostI.no ?_
    first
      | exact b0
      | (iterate 5 (refine Below.setCell ?_ (by show w.heap.size ≤ w.heap.size; exact Nat.le_refl _) _); exact b0)
set_option maxRecDepth 100000 in
set_option maxHeartbeats 4000000 in
theorem read_any (a : List At) (g c bn bo nn no : Nat) (names outs : List ByteArray) (w : World) (hl : a.length ≤ 1048576) (ht : AtomsO w g 0 a) (hbn : bn < w.heap.size) (hbo : bo < w.heap.size) (hne : bn ≠ bo) (hnn : nn ≤ 1099511627776) (hno : no ≤ 1099511627776) (hN : SetAt w bn nn names) (hO : SetAt w bo no outs) (st : Int × Option Tg) (hst : st = step9 names outs a) :
    Calls Tryz.prog 40 #[.agg #[.map (some bn), .map (some bo)], .agg #[.slice (some ⟨g, 0, none⟩) a.length c]] w (RPost w bn bo nn no names outs st) := by
  have HSTP := hide hst
  clear hst
  have r0 := RB.start w bn bo (.slice (some ⟨g, 0, none⟩) a.length c)
  have b0 : Below w.heap.size w (((w.alloc (.cells #[.map (some bn), .map (some bo)] 92)).alloc (.cells #[.slice (some ⟨g, 0, none⟩) a.length c] 45)).alloc (.cells #[.string ⟨#[]⟩, .string ⟨#[]⟩, .string ⟨#[]⟩, .slice none 0 0, .slice none 0 0] 49)) := (((Below.refl _ _).alloc (Nat.le_refl _) _).alloc (by simp) _).alloc (by simp; omega) _
  have HDA := hide (datumOf_any a g c _ hl (ht.below b0))
  have HN0 := hide (hN.below b0)
  have HO0 := hide (hO.below b0)
  have R0 := hide r0
  clear ht hN hO r0 b0
  have np0 : ∀ q : Nat, False → isB bn bo q ∨ w.heap.size + 1 + 1 < q := fun _ h => h.elim
  go_enter Tryz.func40, Tryz.ntmps40
  go_wp2_with fail
  refine HDA.out.mono ?_
  rintro e w1 ⟨hb1, v, rfl, hv⟩
  have R1 := hide (R0.out.mv (Mv.below (P := fun _ => False) hb1) np0 hbn hbo)
  have HN1 := hide (HN0.out.below hb1)
  have HO1 := hide (HO0.out.below hb1)
  clear R0 HN0 HO0 hb1
  cases hva : valid a
  · have HST : Hid (st = (1, none)) := hide (by rw [HSTP.out]; unfold step9 readA; rw [hva]; rfl)
    clear hv hva
    have HRW := hide R1.out
    obtain ⟨⟨y0, y1, y2, y3, y4⟩, ⟨g0, g1, g2, g3, g4⟩⟩ := HRW.out.ans
    go_wp2
    refine bodyPost_ret (v := .tuple #[.agg #[.string ⟨#[]⟩, .string ⟨#[]⟩, .string ⟨#[]⟩, .slice none 0 0, .slice none 0 0], .iface 63 (.agg #[.int .i64 1])]) (by simp [results, Tryz.results40, go_sem, y0, y1, y2, y3, y4]) rfl ?_
    rw [show st = (1, none) from HST.out]
    refine ⟨?_, rfl⟩
    iterate 5 (refine RB.put ?_ _ _)
    exact HRW.out.T
  · obtain ⟨t, X, htr, hgd, hct, hdt⟩ := hv hva
    have HRA : Hid (readA a = some (target9 t)) := hide (by unfold readA; rw [if_pos hva, htr])
    have HTO := hide (targetOf_any t v X w1 hct hdt)
    rw [targetI_eq t hgd] at HTO
    have HSM := hide (fun x h => target_small (x := x) hgd h)
    have HLN := hide (fun x h => target9_len (t := t) (x := x) h)
    have hct2 := hct
    clear hv hva htr hgd hdt
    go_wp2_with fail
    refine HTO.out.mono ?_
    rintro e w2 ⟨hb2, sa, sb, sc, pi, ni, qi, po, nq, qo, rfl, hx⟩
    have R2 := hide (R1.out.mv (Mv.below (P := fun _ => False) hb2) np0 hbn hbo)
    have HN2 := hide (HN1.out.below hb2)
    have HO2 := hide (HO1.out.below hb2)
    have hz1 := R1.out.z
    have b3 : Below w2.heap.size w2 (w2.alloc (.cells #[.string sa, .string sb, .string sc, .slice pi ni qi, .slice po nq qo] 49)) := (Below.refl _ _).alloc (Nat.le_refl _) _
    have R3 := hide (R2.out.mv (Mv.below (P := fun _ => False) b3) np0 hbn hbo)
    clear R1 HN1 HO1
    cases hr : target9 t with
    | none =>
      have HST : Hid (st = (2, none)) := hide (by rw [HSTP.out]; unfold step9; rw [HRA.out, hr])
      clear hx hr b3
      have HRW := hide R3.out
      obtain ⟨⟨y0, y1, y2, y3, y4⟩, ⟨g0, g1, g2, g3, g4⟩⟩ := HRW.out.ans
      go_wp2
      refine bodyPost_ret (v := .tuple #[.agg #[.string ⟨#[]⟩, .string ⟨#[]⟩, .string ⟨#[]⟩, .slice none 0 0, .slice none 0 0], .iface 63 (.agg #[.int .i64 2])]) (by simp [results, Tryz.results40, go_sem, y0, y1, y2, y3, y4]) rfl ?_
      rw [show st = (2, none) from HST.out]
      refine ⟨?_, rfl⟩
      iterate 5 (refine RB.put ?_ _ _)
      exact HRW.out.T
    | some x =>
      obtain ⟨rfl, rfl, rfl, hS2⟩ := hx x hr
      obtain ⟨hsm1, hsm2, hsm3⟩ := HSM.out x hr
      obtain ⟨hli, hlo⟩ := HLN.out x hr
      have HSTX : Hid (st = if memS x.name names = true then (3, none) else if outsBad outs x.outs = true then (4, none) else if twice x.ins = true then (5, none) else (0, some x)) := hide (by rw [HSTP.out]; unfold step9; rw [HRA.out, hr])
      have HSM2 := hide hsm2
      have HSM3 := hide hsm3
      have hz2 := R2.out.z
      have S3 := hide (hS2.below b3)
      have HN3 := hide (HN2.out.below b3)
      have HO3 := hide (HO2.out.below b3)
      have X3 := hide (X5.new w2 (.string x.name) (.string x.tool) (.string x.arg) (.slice pi ni qi) (.slice po nq qo) 49)
      have hq1 := (R3.out).m0
      have hq2 := X3.out.c0
      have hw12 := hb2.size
      have hlti : Hid (∀ q, (Value.slice pi ni qi).ownBlock = some q → w1.heap.size ≤ q ∧ q < w2.heap.size) := hide (fun q hq => own_lt (hS2.own (.slice pi ni qi, x.ins) (List.mem_cons_self ..)) hq)
      have hlto : Hid (∀ q, (Value.slice po nq qo).ownBlock = some q → w1.heap.size ≤ q ∧ q < w2.heap.size) := hide (fun q hq => own_lt (hS2.own (.slice po nq qo, x.outs) (List.mem_cons_of_mem _ (List.mem_cons_self ..))) hq)
      clear hx hr hS2 hsm2 hsm3 HN2 HO2 HSM HLN
      have b4 : Below (w2.alloc (.cells #[.string x.name, .string x.tool, .string x.arg, .slice pi ni qi, .slice po nq qo] 49)).heap.size (w2.alloc (.cells #[.string x.name, .string x.tool, .string x.arg, .slice pi ni qi, .slice po nq qo] 49)) ((w2.alloc (.cells #[.string x.name, .string x.tool, .string x.arg, .slice pi ni qi, .slice po nq qo] 49)).alloc (.cells #[.string x.name] 9)) := (Below.refl _ _).alloc (Nat.le_refl _) _
      have v4 : StrsV ((w2.alloc (.cells #[.string x.name, .string x.tool, .string x.arg, .slice pi ni qi, .slice po nq qo] 49)).alloc (.cells #[.string x.name] 9)) (.slice (some ⟨w2.heap.size + 1, 0, none⟩) 1 1) [x.name] := .inr ⟨w2.heap.size + 1, 0, 1, rfl, by simp, fun i hi => by
        have : i = 0 := by simpa using hi
        subst this
        exact new_cellI _ _ _ _ _ (World.size_alloc _ _)⟩
      have hE1 := enter_any [x.name] names bn nn (.slice (some ⟨w2.heap.size + 1, 0, none⟩) 1 1) _ (by simp) (fun s hs => by rw [List.mem_singleton] at hs; subst hs; omega) hnn v4 (HN3.out.below b4)
      unfold EPost at hE1
      rw [bad_one] at hE1
      have HE1 := hide hE1
      have R4 := hide (R3.out.mv (Mv.below (P := fun _ => False) b4) np0 hbn hbo)
      have S4 := hide (S3.out.below b4)
      have HO4 := hide (HO3.out.below b4)
      have HN4 := hide (HN3.out.below b4)
      have X4 := hide (X3.out.mv (Mv.below (P := fun _ => False) b4) (fun h => h))
      clear hE1 v4 b4 R3 S3 HO3 HN3 X3 R2
      cases hm1 : memS x.name names
      · rw [hm1] at HE1
        go_wp2_with fail
        refine HE1.out.mono ?_
        rintro e w5 ⟨rfl, hs5, hg5⟩
        have HN5 := hide (hs5 trivial)
        have M5 : Mv (fun q => q = bn) _ w5 := Mv.grown hg5 (fun q e => by cases e; rfl)
        have R5 := hide (R4.out.mv M5 (fun q e => .inl (.inl e)) hbn hbo)
        have S5 := hide (S4.out.map HN4.out hg5)
        have HO5 := hide (HO4.out.kept hg5 (by simpa using hne))
        have X5' := hide (X4.out.mv M5 (by show ¬ w2.heap.size = bn; omega))
        clear hs5 hg5 M5 R4 S4 HO4 HN4 X4 HE1 hq1 hq2
        have hq1 := R5.out.m1
        have hq2 := X5'.out.c4
        have vo5 : StrsV w5 (.slice po nq qo) x.outs := by
          have h := S5.out.own (.slice po nq qo, x.outs) (List.mem_cons_of_mem _ (List.mem_cons_self ..))
          obtain ⟨p', c', e'⟩ := row_form h
          simp only at e'
          cases e'
          exact strsV_of_row h
        have hE2 := enter_any x.outs outs bo no (.slice po nq qo) w5 (by omega) (fun s hs => Nat.le_trans (HSM3.out s hs) (by omega)) hno vo5 HO5.out
        unfold EPost at hE2
        have HE2 := hide hE2
        clear hE2 vo5
        cases hm2 : outsBad outs x.outs
        · rw [hm2] at HE2
          go_wp2_with fail
          refine HE2.out.mono ?_
          rintro e w6 ⟨rfl, hs6, hg6⟩
          have HO6 := hide (hs6 trivial)
          have M6 : Mv (fun q => q = bo) _ w6 := Mv.grown hg6 (fun q e => by cases e; rfl)
          have R6 := hide (R5.out.mv M6 (fun q e => .inl (.inr e)) hbn hbo)
          have S6 := hide (S5.out.map HO5.out hg6)
          have HN6 := hide (HN5.out.kept hg6 (by simpa using fun e => hne e.symm))
          have X6 := hide (X5'.out.mv M6 (by show ¬ w2.heap.size = bo; omega))
          clear hs6 hg6 M6 R5 S5 HO5 HN5 X5' HE2 hq1 hq2
          have b7 : Below w6.heap.size w6 (w6.alloc (.map #[] 0)) := (Below.refl _ _).alloc (Nat.le_refl _) _
          have HM7 : SetAt (w6.alloc (.map #[] 0)) w6.heap.size 0 [] := World.ownsMap_made _ _ _ _
          have R7 := hide (R6.out.mv (Mv.below (P := fun _ => False) b7) np0 hbn hbo)
          have S7 := hide (S6.out.below b7)
          have HO7 := hide (HO6.out.below b7)
          have HN7 := hide (HN6.out.below b7)
          have X7 := hide (X6.out.mv (Mv.below (P := fun _ => False) b7) (fun h => h))
          have hq2 := X7.out.c3
          have hq3 := X6.out.c3
          have hz6 := R6.out.z
          have hz6b := X6.out.z
          have hlt6n : bn < w6.heap.size := by omega
          have hlt6o : bo < w6.heap.size := by omega
          have vi7 : StrsV (w6.alloc (.map #[] 0)) (.slice pi ni qi) x.ins := by
            have h := S7.out.own (.slice pi ni qi, x.ins) (List.mem_cons_self ..)
            obtain ⟨p', c', e'⟩ := row_form h
            simp only at e'
            cases e'
            exact strsV_of_row h
          have hE3 := enter_any x.ins [] w6.heap.size 0 (.slice pi ni qi) _ (by omega) (fun s hs => Nat.le_trans (HSM2.out s hs) (by omega)) (by omega) vi7 HM7
          unfold EPost at hE3
          rw [← twice_bad] at hE3
          have HE3 := hide hE3
          have HM7h := hide HM7
          clear hE3 vi7 HM7 b7 R6 S6 HO6 HN6
          have hmm := @run_makeMap Tryz.prog
          cases hm3 : twice x.ins
          · rw [hm3] at HE3
            go_wp2_with fail
            refine HE3.out.mono ?_
            rintro e w8 ⟨rfl, -, hg8⟩
            have M8 : Mv (fun q => q = w6.heap.size) _ w8 := Mv.grown hg8 (fun q e => by cases e; rfl)
            have R8 := hide (R7.out.mv M8 (fun q e => .inr (by omega)) hbn hbo)
            have S8 := hide (S7.out.map HM7h.out hg8)
            have HN8 := hide (HN7.out.kept hg8 (by simp; omega))
            have HO8 := hide (HO7.out.kept hg8 (by simp; omega))
            have X8 := hide (X7.out.mv M8 (by show ¬ w2.heap.size = w6.heap.size; omega))
            have hw8 := hg8.size
            rw [World.size_alloc] at hw8
            clear hg8 M8 R7 S7 HO7 HN7 X7 HE3 hq2 hq3 HM7h X6
            have hq2 := X8.out.c3
            have hoi := S8.out.own (.slice pi ni qi, x.ins) (List.mem_cons_self ..)
            have HST : Hid (st = (0, some x)) := hide (by rw [HSTX.out, if_neg (by rw [hm1]; decide), if_neg (by rw [hm2]; decide), if_neg (by rw [hm3]; decide)])
            have HSI := hide (sortT_any x.ins w1.heap.size (.slice pi ni qi) w8 (by omega) hoi)
            have NDI : Hid (srtI x.ins = sortS x.ins) := hide (srtI_eq _ (bad_nodup [] x.ins (by rw [← twice_bad, hm3])).1)
            have NDO : Hid (srtI x.outs = sortS x.outs) := hide (srtI_eq _ (bad_nodup outs x.outs hm2).1)
            clear hoi hm1 hm2 hm3
            go_wp2_with fail
            refine HSI.out.mono ?_
            rintro e w9 ⟨rfl, ho9, hg9⟩
            have M9 : Mv (fun q => (Value.slice pi ni qi).ownBlock = some q) w8 w9 := Mv.grown hg9 (fun q e => e)
            have R9 := hide (R8.out.mv M9 (fun q e => .inr (by have := (hlti.out q e).1; omega)) hbn hbo)
            have S9 : Hid (SR w1.heap.size [(.slice po nq qo, x.outs), (.slice pi ni qi, srtI x.ins)] w9) := hide ((S8.out.grow hg9 (l' := srtI x.ins) (by rw [srtI_len]; exact ho9) (.inl rfl)).perm (List.Perm.swap _ _ _))
            have HN9 := hide (HN8.out.kept hg9 (fun e => by have := (hlti.out bn e).1; omega))
            have HO9 := hide (HO8.out.kept hg9 (fun e => by have := (hlti.out bo e).1; omega))
            have X9 := hide (X8.out.mv M9 (fun e => by have := (hlti.out _ e).2; omega))
            clear ho9 hg9 M9 R8 S8 HN8 HO8 X8 HSI hq2
            have hq2 := X9.out.c4
            have hoo := S9.out.own (.slice po nq qo, x.outs) (List.mem_cons_self ..)
            have HSO := hide (sortT_any x.outs w1.heap.size (.slice po nq qo) w9 (by omega) hoo)
            clear hoo
            go_wp2_with fail
            refine HSO.out.mono ?_
            rintro e w10 ⟨rfl, ho10, hg10⟩
            have M10 : Mv (fun q => (Value.slice po nq qo).ownBlock = some q) w9 w10 := Mv.grown hg10 (fun q e => e)
            have R10 := hide (R9.out.mv M10 (fun q e => .inr (by have := (hlto.out q e).1; omega)) hbn hbo)
            have S10 : Hid (SR w1.heap.size [(.slice pi ni qi, sortS x.ins), (.slice po nq qo, sortS x.outs)] w10) := hide (by
              have h := (S9.out.grow hg10 (l' := srtI x.outs) (by rw [srtI_len]; exact ho10) (.inl rfl)).perm (List.Perm.swap _ _ _)
              rw [NDI.out, NDO.out] at h
              exact h)
            have HN10 := hide (HN9.out.kept hg10 (fun e => by have := (hlto.out bn e).1; omega))
            have HO10 := hide (HO9.out.kept hg10 (fun e => by have := (hlto.out bo e).1; omega))
            have X10 := hide (X9.out.mv M10 (fun e => by have := (hlto.out _ e).2; omega))
            clear ho10 hg10 M10 R9 S9 HN9 HO9 X9 HSO hq2
            obtain ⟨x0, x1, x2, x3, x4, xz⟩ := X10.out
            obtain ⟨⟨y0, y1, y2, y3, y4⟩, ⟨g0, g1, g2, g3, g4⟩⟩ := R10.out.ans
            go_wp2
            refine bodyPost_ret (v := .tuple #[.agg #[.string x.name, .string x.tool, .string x.arg, .slice pi ni qi, .slice po nq qo], .nilIface]) (by simp [results, Tryz.results40, go_sem, y0, y1, y2, y3, y4]) rfl ?_
            rw [show st = (0, some x) from HST.out]
            refine ⟨?_, _, _, rfl, SR.mono (B := w1.heap.size) ?_ (by omega), ?_, ?_⟩
            · iterate 5 (refine RB.put ?_ _ _)
              exact R10.out.T
            · iterate 5 (refine SR.set ?_ (by omega) _)
              exact S10.out
            · iterate 5 (refine SetAt.set ?_ (by omega) _)
              exact HN10.out
            · iterate 5 (refine SetAt.set ?_ (by omega) _)
              exact HO10.out
          · have HST : Hid (st = (5, none)) := hide (by rw [HSTX.out, if_neg (by rw [hm1]; decide), if_neg (by rw [hm2]; decide), if_pos hm3])
            rw [hm3] at HE3
            go_wp2_with fail
            refine HE3.out.mono ?_
            rintro e w8 ⟨rfl, -, hg8⟩
            have M8 : Mv (fun q => q = w6.heap.size) _ w8 := Mv.grown hg8 (fun q e => by cases e; rfl)
            have R8 := hide (R7.out.mv M8 (fun q e => .inr (by omega)) hbn hbo)
            clear hg8 M8
            have HRW := hide R8.out
            obtain ⟨⟨y0, y1, y2, y3, y4⟩, ⟨g0, g1, g2, g3, g4⟩⟩ := HRW.out.ans
            go_wp2
            refine bodyPost_ret (v := .tuple #[.agg #[.string ⟨#[]⟩, .string ⟨#[]⟩, .string ⟨#[]⟩, .slice none 0 0, .slice none 0 0], .iface 63 (.agg #[.int .i64 5])]) (by simp [results, Tryz.results40, go_sem, y0, y1, y2, y3, y4]) rfl ?_
            rw [show st = (5, none) from HST.out]
            refine ⟨?_, rfl⟩
            iterate 5 (refine RB.put ?_ _ _)
            exact HRW.out.T
        · have HST : Hid (st = (4, none)) := hide (by rw [HSTX.out, if_neg (by rw [hm1]; decide), if_pos hm2])
          rw [hm2] at HE2
          go_wp2_with fail
          refine HE2.out.mono ?_
          rintro e w6 ⟨rfl, -, hg6⟩
          have M6 : Mv (fun q => q = bo) _ w6 := Mv.grown hg6 (fun q e => by cases e; rfl)
          have R6 := hide (R5.out.mv M6 (fun q e => .inl (.inr e)) hbn hbo)
          clear hg6 M6
          have HRW := hide R6.out
          obtain ⟨⟨y0, y1, y2, y3, y4⟩, ⟨g0, g1, g2, g3, g4⟩⟩ := HRW.out.ans
          go_wp2
          refine bodyPost_ret (v := .tuple #[.agg #[.string ⟨#[]⟩, .string ⟨#[]⟩, .string ⟨#[]⟩, .slice none 0 0, .slice none 0 0], .iface 63 (.agg #[.int .i64 4])]) (by simp [results, Tryz.results40, go_sem, y0, y1, y2, y3, y4]) rfl ?_
          rw [show st = (4, none) from HST.out]
          refine ⟨?_, rfl⟩
          iterate 5 (refine RB.put ?_ _ _)
          exact HRW.out.T
      · have HST : Hid (st = (3, none)) := hide (by rw [HSTX.out, if_pos hm1])
        rw [hm1] at HE1
        go_wp2_with fail
        refine HE1.out.mono ?_
        rintro e w5 ⟨rfl, -, hg5⟩
        have M5 : Mv (fun q => q = bn) _ w5 := Mv.grown hg5 (fun q e => by cases e; rfl)
        have R5 := hide (R4.out.mv M5 (fun q e => .inl (.inl e)) hbn hbo)
        clear hg5 M5
        have HRW := hide R5.out
        obtain ⟨⟨y0, y1, y2, y3, y4⟩, ⟨g0, g1, g2, g3, g4⟩⟩ := HRW.out.ans
        go_wp2
        refine bodyPost_ret (v := .tuple #[.agg #[.string ⟨#[]⟩, .string ⟨#[]⟩, .string ⟨#[]⟩, .slice none 0 0, .slice none 0 0], .iface 63 (.agg #[.int .i64 3])]) (by simp [results, Tryz.results40, go_sem, y0, y1, y2, y3, y4]) rfl ?_
        rw [show st = (3, none) from HST.out]
        refine ⟨?_, rfl⟩
        iterate 5 (refine RB.put ?_ _ _)
        exact HRW.out.T
end Go.Proofs.YtmpjdooepdicoaaGreatDoor.Vl
