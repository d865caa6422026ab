/- Targets, the program's side: rows sorted. -/
import Derived.Test.YtmpjdooepdicoaaGreatDoorBe
import Derived.Test.YtmpjdooepdicoaaGreatDoorBf
import Derived.Test.YtmpjdooepdicoaaGreatDoorBc
import Derived.Lib.Bytealg
import Derived.Laws.Externs
namespace Go.Proofs.YtmpjdooepdicoaaGreatDoor.Vl
open Go.RowKit T.atoms T.ok T.high T.good T.allPlain DatAt

def cmpB (less same : Bool) : Int := if same then 0 else if less then -1 else 1
def cmpS (a b : ByteArray) : Int := cmpB (slt a b) (a.toList == b.toList)
theorem less_self : ∀ a : List UInt8, Go.Op.bytesLess a a = false
  | [] => rfl
  | x :: a => by
    have ih := less_self a
    simp [Go.Op.bytesLess, UInt8.lt_irrefl, ih]
theorem less_trans : ∀ a b c : List UInt8, Go.Op.bytesLess a b = true → Go.Op.bytesLess b c = true → Go.Op.bytesLess a c = true
  | [], [], _, h, _ => by simp [Go.Op.bytesLess] at h
  | [], _ :: _, [], _, h => by simp [Go.Op.bytesLess] at h
  | [], _ :: _, _ :: _, _, _ => by simp [Go.Op.bytesLess]
  | _ :: _, [], _, h, _ => by simp [Go.Op.bytesLess] at h
  | _ :: _, _ :: _, [], _, h => by simp [Go.Op.bytesLess] at h
  | x :: a, y :: b, z :: c, h1, h2 => by
    have ih := less_trans a b c
    simp only [Go.Op.bytesLess, Bool.or_eq_true, Bool.and_eq_true, decide_eq_true_eq, beq_iff_eq] at h1 h2 ⊢
    have lt : ∀ p q : UInt8, p < q ↔ p.toNat < q.toNat := fun p q => UInt8.lt_iff_toNat_lt
    have eq : ∀ p q : UInt8, p = q ↔ p.toNat = q.toNat := fun p q => UInt8.toNat_inj.symm
    simp only [lt, eq] at h1 h2 ⊢
    rcases h1 with h1 | ⟨h1, h1'⟩
    · rcases h2 with h2 | ⟨h2, _⟩ <;> exact .inl (by omega)
    · rcases h2 with h2 | ⟨h2, h2'⟩
      · exact .inl (by omega)
      · exact .inr ⟨by omega, ih h1' h2'⟩

theorem compare_cmp : ∀ a b : List UInt8, Lib.compareBytes a b = cmpB (Go.Op.bytesLess a b) (a == b)
  | [], [] => rfl
  | [], _ :: _ => rfl
  | _ :: _, [] => rfl
  | x :: a, y :: b => by
    have ih := compare_cmp a b
    simp only [Lib.compareBytes, Go.Op.bytesLess, List.cons_beq_cons]
    have h3 : x < y ∨ x = y ∨ y < x := by
      rcases Nat.lt_trichotomy x.toNat y.toNat with h | h | h
      · exact .inl (UInt8.lt_iff_toNat_lt.2 h)
      · exact .inr (.inl (UInt8.toNat_inj.1 h))
      · exact .inr (.inr (UInt8.lt_iff_toNat_lt.2 h))
    rcases h3 with h | h | h
    · have h2 : ¬ x = y := fun e => by subst e; exact UInt8.lt_irrefl _ h
      simp [h, h2, cmpB]
    · subst h
      have h1 : ¬ x < x := UInt8.lt_irrefl _
      simpa [h1] using ih
    · have h1 : ¬ x < y := UInt8.lt_asymm h
      have h2 : ¬ x = y := fun e => by subst e; exact UInt8.lt_irrefl _ h
      simp [h, h1, h2, cmpB]
theorem cmpS_compare (a b : ByteArray) : Lib.compareBytes a.data.toList b.data.toList = cmpS a b := by
  rw [compare_cmp]; unfold cmpS slt; rw [Lib.toList_data, Lib.toList_data]

set_option maxRecDepth 100000 in
set_option maxHeartbeats 1000000 in
theorem cmpString_any (a b : ByteArray) (w : World) : Calls Tryz.prog 47 #[.string a, .string b] w fun e w' => e = .returned (.int .i64 (cmpS a b)) ∧ w' = w := by
  rw [← cmpS_compare]
  go_enter Tryz.func47, Tryz.ntmps47
  go_wp2
  rw [run_callFunc_extern Tryz.func72 (by kernel_rfl) (by kernel_rfl) (by kernel_rfl) (e := Extern.BytealgCompare.compare) (by kernel_rfl), Lib.run_compareString]
  simp only [Result.andThen]
  rw [Oper.upon_value]
  go_wp2
  go_ret
  exact ⟨rfl, rfl⟩
set_option maxHeartbeats 1000000 in
theorem strCompare_any (a b : ByteArray) (w : World) : Calls Tryz.prog 24 #[.string a, .string b] w fun e w' => e = .returned (.int .i64 (cmpS a b)) ∧ w' = w := by
  go_enter Tryz.func24, Tryz.ntmps24
  go_wp2_with (go_at_call 47; refine (cmpString_any _ _ _).mono ?_; rintro e w' ⟨rfl, rfl⟩)
  go_ret
  exact ⟨rfl, rfl⟩

theorem en_of {f : FuncId} {fn : Func} (hfn : Tryz.prog.funcs[f]? = some fn) (hne : (fn.name == "runtime.NumGoroutine") = false) (hbd : fn.body.isNone = false) (args : Array Value) (w : World) : (callFunc f args).run Tryz.prog w = .ok (.enter f args) w := by
  simp only [callFunc, Sem.run_bind, run_program, Result.andThen_ok, hfn, hne, hbd]; rfl
theorem cmpS_lt {a b : ByteArray} : (cmpS a b < 0) ↔ slt a b = true := by
  unfold cmpS cmpB
  by_cases e : a.toList = b.toList
  · unfold slt
    rw [e, less_self]
    simp
  · have h1 : (a.toList == b.toList) = false := by simpa using e
    rw [h1]
    cases slt a b <;> simp
theorem slt_irr (a : ByteArray) : slt a a = false := less_self _
theorem slt_tr {a b c : ByteArray} (h1 : slt a b = true) (h2 : slt b c = true) : slt a c = true := less_trans _ _ _ h1 h2
theorem slt_tot {a b : ByteArray} (h1 : slt a b = false) (h2 : slt b a = false) : a = b := by
  have t := less_total a.toList b.toList
  unfold slt at h1 h2
  rw [h1, h2] at t
  have e : a.toList = b.toList := by simpa using t
  rw [Lib.toList_data, Lib.toList_data] at e
  exact ByteArray.ext (Array.toList_inj.1 e)
theorem slt_nt {a b c : ByteArray} (h1 : slt a b = false) (h2 : slt b c = false) : slt a c = false := by
  cases h : slt a c with
  | false => rfl
  | true =>
    cases hb : slt b a with
    | true => rw [slt_tr hb h] at h2; cases h2
    | false =>
      have e := slt_tot h1 hb
      subst e
      rw [h] at h2
      cases h2

/-- A row of one's own whose cells are put anew. -/
theorem row_put {α : Type} [Inhabited α] {w : World} {B : Nat} {e : TypeId} {size g n cap : Nat} {xs : List Value} (h : w.ownsRow B e size (.slice (some ⟨g, 0, none⟩) n cap) n xs) (enc : α → Value) (d : Array α) (hd : d.size = n * size) (m : Nat) (os : Array Obj) :
    (Go.Sort.grow (Go.Sort.putRow enc (Go.Sort.ahead w m) g 0 d) os).ownsRow B e size (.slice (some ⟨g, 0, none⟩) n cap) n (d.toList.map enc) ∧ w.grownBy (Go.Sort.grow (Go.Sort.putRow enc (Go.Sort.ahead w m) g 0 d) os) (some g) := by
  have hlt := (h.lt g rfl).2
  rcases h.2 with ⟨h1, _⟩ | ⟨g', cap', cur, hv, h2, h3, h4, h5, h6, h7⟩
  · cases h1
  · cases hv
    have hsz : n * size ≤ cur.size := by rw [h6]; exact Nat.mul_le_mul_right _ h4
    constructor
    · refine ⟨by rw [List.length_map, Array.length_toList, hd], .inr ⟨g, cap, Go.Sort.putCells enc 0 d cur, rfl, h2, ?_, h4, h5, ?_, ?_⟩⟩
      · unfold Go.Sort.grow Go.Sort.putRow Go.Sort.mapBlock Go.Sort.ahead
        rw [Array.getElem?_append_left (by simpa using hlt), Array.getElem?_modify, if_pos rfl, h3]
        rfl
      · unfold Go.Sort.putCells; rw [Array.size_mapIdx]; exact h6
      · apply List.ext_getElem?
        intro j
        by_cases hj : j < n * size
        · rw [List.getElem?_take_of_lt hj, Array.getElem?_toList, List.getElem?_map, Array.getElem?_toList]
          unfold Go.Sort.putCells
          rw [Array.getElem?_mapIdx, Array.getElem?_eq_getElem (by omega), Array.getElem?_eq_getElem (by omega : j < d.size)]
          simp only [Option.map_some, Nat.sub_zero]
          rw [if_pos ⟨Nat.zero_le _, by omega⟩, getElem!_pos d j (by omega)]
        · rw [List.getElem?_eq_none (by rw [List.length_take]; omega), List.getElem?_eq_none (by rw [List.length_map, Array.length_toList]; omega)]
    · refine ⟨rfl, rfl, rfl, ?_, fun k hk hne => ?_⟩
      · unfold Go.Sort.grow Go.Sort.putRow Go.Sort.mapBlock Go.Sort.ahead; simp
      · unfold Go.Sort.grow Go.Sort.putRow Go.Sort.mapBlock Go.Sort.ahead
        rw [Array.getElem?_append_left (by simpa using hk), Array.getElem?_modify, if_neg (fun e => hne (by rw [e]))]
/-- Texts sorted. -/
def srtI (l : List ByteArray) : List ByteArray := ((l.map fun s => s.data.toList).mergeSort fun x y => decide (x ≤ y)).map fun x => ⟨x.toArray⟩
theorem srtI_len (l : List ByteArray) : (srtI l).length = l.length := by unfold srtI; rw [List.length_map, List.length_mergeSort, List.length_map]
set_option maxRecDepth 100000 in
theorem sortT_any (l : List ByteArray) (B : Nat) (v : Value) (w : World) (hn : l.length ≤ 1048576) (ho : w.ownsRow B 9 1 v l.length (cellsT l)) :
    Calls Tryz.prog 58 #[v] w fun e w' => e = .returned (.tuple #[]) ∧ w'.ownsRow B 9 1 v l.length (cellsT (srtI l)) ∧ w.grownBy w' v.ownBlock := by
  rcases ho.2 with ⟨rfl, h0⟩ | ⟨g, cap, cur, hv, _⟩
  · obtain rfl := List.eq_nil_of_length_eq_zero h0
    have h := AnyM.slices_Sort_string_none Tryz.sortS none 0 w
    change Calls Tryz.prog 58 _ _ _ at h
    refine h.mono ?_
    rintro e w' ⟨rfl, rfl⟩
    refine ⟨rfl, ?_, grown_refl _ _⟩
    have e : srtI [] = [] := by unfold srtI; simp
    rw [e]
    exact ho
  · subst hv
    have hlt := (ho.lt g rfl).2
    have hH : Go.Sort.Holds encStr w g 0 (l.map fun s => s.data.toList).toArray := by
      intro j hj
      have hj' : j < l.length := by simpa using hj
      rw [Nat.zero_add]
      refine ⟨?_, ho.frozenAt j⟩
      rw [ho.cellAt j (by omega)]
      simp [cellsT, hj', encStr]
    have h := AnyM.slices_Sort_string Tryz.sortS g 0 cap (l.map fun s => s.data.toList) w hH hlt (by simp; omega)
    rw [show Tryz.sortS_ren.f 6 = 58 from rfl, List.length_map] at h
    refine h.mono ?_
    rintro e w' ⟨rfl, m, os, rfl⟩
    have hp := row_put ho encStr ((l.map fun s => s.data.toList).mergeSort fun x y => decide (x ≤ y)).toArray (by simp) m os
    refine ⟨rfl, ?_, hp.2⟩
    have e : ((l.map fun s => s.data.toList).mergeSort fun x y => decide (x ≤ y)).toArray.toList.map encStr = cellsT (srtI l) := by
      unfold cellsT srtI
      rw [List.map_map]
      rfl
    rw [← e]
    exact hp.1
/-- A target as the sort sees it. -/
abbrev Le := Tg × (Option Addr × Nat × Nat) × (Option Addr × Nat × Nat)
def Le.lc (e : Le) : Lc := ⟨e.1, .slice e.2.1.1 e.2.1.2.1 e.2.1.2.2, .slice e.2.2.1 e.2.2.2.1 e.2.2.2.2⟩
def encL (e : Le) : List Value := (Le.lc e).cells
def cfL (x y : Le) : Int := cmpS x.1.name y.1.name
theorem cfL_lt (x y : Le) : ltOf cfL x y = slt x.1.name y.1.name := by
  unfold ltOf cfL
  rw [Bool.eq_iff_iff, decide_eq_true_eq]
  exact cmpS_lt
theorem cfL_swo : Go.Sort.SWO (ltOf cfL) where
  irrefl x := by rw [cfL_lt]; exact slt_irr _
  trans x y z h1 h2 := by rw [cfL_lt] at h1 h2 ⊢; exact slt_tr h1 h2
  ntrans x y z h1 h2 := by rw [cfL_lt] at h1 h2 ⊢; exact slt_nt h1 h2
theorem encL_len (d : List Le) : (d.flatMap encL).length = d.length * 5 := by
  induction d with
  | nil => rfl
  | cons e r ih => rw [List.flatMap_cons, List.length_append, ih, List.length_cons]; show 5 + r.length * 5 = _; omega
theorem encL_at : ∀ (d : List Le) (i j : Nat) (h : i < d.length), j < 5 → (d.flatMap encL)[i * 5 + j]? = (encL d[i])[j]?
  | e :: r, 0, j, _, hj => by
    rw [List.flatMap_cons, Nat.zero_mul, Nat.zero_add, List.getElem?_append_left (by show j < 5; exact hj)]
    rfl
  | e :: r, i + 1, j, h, hj => by
    have ih := encL_at r i j (by simpa using h) hj
    rw [List.flatMap_cons, List.getElem?_append_right (by show 5 ≤ _; omega), show (i + 1) * 5 + j - (encL e).length = i * 5 + j from by show (i + 1) * 5 + j - 5 = _; omega]
    exact ih
theorem flatL [Inhabited Le] (d : List Le) : (Go.Sort.flatK encL 5 d.toArray).toList = d.flatMap encL := by
  have hs : (Go.Sort.flatK encL 5 d.toArray).size = d.length * 5 := by simp
  apply List.ext_getElem?
  intro j
  by_cases hj : j < d.length * 5
  · have h1 : j < (Go.Sort.flatK encL 5 d.toArray).size := by rw [hs]; exact hj
    rw [Array.getElem?_toList, Array.getElem?_eq_getElem h1, ← getElem!_pos (Go.Sort.flatK encL 5 d.toArray) j h1, Go.Sort.get_flatK _ _ _ j (by simpa using hj)]
    have hh : j / 5 < d.length := by omega
    have e1 : d.toArray[j / 5]! = d[j / 5] := by simp [hh]
    have e2 := encL_at d (j / 5) (j % 5) hh (Nat.mod_lt _ (by omega))
    rw [show j / 5 * 5 + j % 5 = j from by omega] at e2
    rw [e1, e2]
    have h5 : j % 5 < (encL d[j / 5]).length := by show j % 5 < 5; exact Nat.mod_lt _ (by omega)
    rw [List.getElem?_eq_getElem h5]
    congr 1
    first
      | rw [getElem!_pos (encL d[j / 5]) (j % 5) h5]
      | simp [h5]
  · rw [List.getElem?_eq_none (by rw [Array.length_toList, hs]; omega), List.getElem?_eq_none (by rw [encL_len]; omega)]
set_option maxHeartbeats 400000 in
theorem cmpLaysL [Inhabited Le] (blk off size : Nat) (w : World) : CmpLays Tryz.prog 23 #[] encL 5 cfL blk off size w := by
  intro m os dk _ x y
  show Calls Tryz.prog 23 #[.agg #[.string x.1.name, .string x.1.tool, .string x.1.arg, .slice x.2.1.1 x.2.1.2.1 x.2.1.2.2, .slice x.2.2.1 x.2.2.2.1 x.2.2.2.2], .agg #[.string y.1.name, .string y.1.tool, .string y.1.arg, .slice y.2.1.1 y.2.1.2.1 y.2.1.2.2, .slice y.2.2.1 y.2.2.2.1 y.2.2.2.2]] _ _
  generalize sortWorldK encL 5 w blk off m dk os = W
  unfold cfL
  go_enter Tryz.func23, Tryz.ntmps23
  go_wp2_with (go_at_call 24; refine (strCompare_any _ _ _).mono ?_; rintro e w' ⟨rfl, rfl⟩)
  go_ret
  exact ⟨rfl, 0, _, by rw [Go.Sort.alloc_eq_grow, Go.Sort.alloc_eq_grow, Go.Sort.grow_grow]; rfl⟩
theorem extractL (d : Array Le) : (d.extract 0 d.size).toList = d.toList := by simp
set_option maxRecDepth 100000 in
theorem sortL_any (d : List Le) (B n : Nat) (v : Value) (w : World) (hn : d.length = n) (hn1 : n ≤ 1048576) (ho : w.ownsRow B 49 5 v n (d.flatMap encL)) :
    Calls Tryz.prog 22 #[v, .func (.func 23) #[] #[]] w fun e w' => e = .returned (.tuple #[]) ∧ ∃ d' : List Le, d'.Perm d ∧ d'.Pairwise (fun a b => slt b.1.name a.1.name = false) ∧ w'.ownsRow B 49 5 v n (d'.flatMap encL) ∧ w.grownBy w' v.ownBlock := by
  haveI : Inhabited Le := ⟨(tg0, (none, 0, 0), (none, 0, 0))⟩
  subst hn
  rcases ho.2 with ⟨h1, h2⟩ | ⟨g, cap, cur, h1, hge, hg, _⟩
  · obtain rfl : d = [] := List.eq_nil_of_length_eq_zero h2
    subst h1
    have h := AnyF.slices_SortFunc_none { Tryz.sortF with } none 0 (.func (.func 23) #[] #[]) w
    change Calls Tryz.prog 22 _ _ _ at h
    refine h.mono ?_
    rintro e w' ⟨rfl, rfl⟩
    exact ⟨rfl, [], .refl _, .nil, ho, grown_refl _ _⟩
  · subst h1
    have hlt := (ho.lt g rfl).2
    have hfs : (Go.Sort.flatK encL 5 d.toArray).size = d.length * 5 := by rw [← Array.length_toList, flatL, encL_len]
    have hH : Go.Sort.HoldsK encL 5 w g 0 d.toArray := by
      intro j hj
      rw [hfs] at hj
      rw [Nat.zero_add]
      refine ⟨?_, ho.frozenAt j⟩
      have h1 : j < (Go.Sort.flatK encL 5 d.toArray).size := by rw [hfs]; exact hj
      rw [ho.cellAt j hj, ← flatL, Array.getElem?_toList, Array.getElem?_eq_getElem h1, getElem!_pos _ j h1]
      rfl
    have h := AnyQ.slices_SortFunc Tryz.sortF 5 Tryz.isAgg49 Tryz.sizeOf49 encL (fun _ => rfl) (fun x v hv => by simp [encL, Le.lc, Lc.cells] at hv; rcases hv with rfl | rfl | rfl | rfl | rfl <;> rfl) cfL cfL_swo 23 #[] g 0 cap d.toArray w (en_of Tryz.func23 (by kernel_rfl) (by kernel_rfl)) (cmpLaysL g 0 d.toArray.size w) hH hlt (by simp; omega)
    change Calls Tryz.prog 22 #[.slice (some ⟨g, 0, none⟩) d.length cap, .func (.func 23) #[] #[]] _ _ at h
    refine h.mono ?_
    rintro e w' ⟨rfl, d', m, os, hp, hs, rfl⟩
    have hsz : d'.size = d.length := by simpa using hp.1
    have hperm : d'.toList.Perm d := by
      have h3 := hp.2.2
      rw [show d.toArray.size = d'.size by rw [hsz]; simp, extractL] at h3
      rw [show d'.size = d.toArray.size by rw [hsz]; simp, extractL] at h3
      simpa using h3
    have hf2 : (Go.Sort.flatK encL 5 d').toList = d'.toList.flatMap encL := by have := flatL d'.toList; simpa using this
    have hpr := row_put ho (id : Value → Value) (Go.Sort.flatK encL 5 d') (by rw [← Array.length_toList, hf2, encL_len, Array.length_toList, hsz]) m os
    refine ⟨rfl, d'.toList, hperm, ?_, ?_, hpr.2⟩
    · rw [List.pairwise_iff_getElem]
      intro i j hi hj hij
      have hj2 : j < d'.size := by simpa using hj
      have := hs i j (Nat.zero_le _) hij (by simp at hj ⊢; omega)
      rw [getElem!_pos d' j hj2, getElem!_pos d' i (by omega), cfL_lt] at this
      exact this
    · have h5 := hpr.1
      rw [List.map_id, hf2] at h5
      exact h5
end Go.Proofs.YtmpjdooepdicoaaGreatDoor.Vl
