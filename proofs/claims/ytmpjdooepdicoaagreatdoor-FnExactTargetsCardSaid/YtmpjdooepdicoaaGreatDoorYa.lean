/- Targets, the specification's side: what a record names. -/
import Derived.Test.YtmpjdooepdicoaaGreatDoorQs
import Derived.Test.YtmpjdooepdicoaaGreatDoorQv
namespace Go.Proofs.YtmpjdooepdicoaaGreatDoor.Vl
open Go.RowKit T.atoms T.ok T.high T.good T.allPlain

theorem count_mem (ks : List T) (i : Nat) (h : i < ks.length) : (ks[i]).count ≤ (atomsL ks).length := by
  have e : ks = ks.take i ++ [ks[i]] ++ ks.drop (i + 1) := by rw [← List.take_succ_eq_append_getElem h, List.take_append_drop]
  have h := congrArg (fun x => (atomsL x).length) e
  simp only [atomsL_append, List.length_append, atomsL, List.append_nil] at h
  unfold T.count; omega

theorem atomsO_set {w : World} {g o : Nat} {l : List At} (h : AtomsO w g o l) (a : Addr) (hg : a.block ≠ g) (v : Value) : AtomsO (w.setCell a v) g o l := by
  refine ⟨by simpa using h.1, fun i hi => ?_⟩
  obtain ⟨c0, c1, c2, c3⟩ := h.2 i hi
  have e : ∀ j, (w.setCell a v).cell? ⟨g, j, none⟩ = w.cell? ⟨g, j, none⟩ := fun j => World.cell?_of_block (a := ⟨g, j, none⟩) (Below.heap_setCell _ _ _ _ (fun q => hg q.symm))
  exact ⟨(e _).trans c0, (e _).trans c1, (e _).trans c2, (e _).trans c3⟩
theorem fld2' (k n q : Int) (s : ByteArray) (w : World) : (Instr.field 82 (.agg #[.int .i64 k, .int .i64 n, .string s, .int .i64 q]) 2).run Tryz.prog w = .ok (.string s) w := by kernel_rfl

set_option maxRecDepth 100000 in
set_option maxHeartbeats 400000 in
theorem kind6_any (a : At) (l : List At) (g o c m : Nat) (w : World) (hm : l.length = m + 1) (hn : m < 1048576) (ha : l[m]? = some a) (ht : AtomsO w g o l) :
    Calls Tryz.prog 33 #[.agg #[.slice (some ⟨g, o, none⟩) (m + 1) c]] w fun e w' => e = .returned (.int .i64 a.kind) ∧ Below w.heap.size w w' := by
  have HL := hide (fun w' (hb : Below w.heap.size w w') => last_any a l g o c m w' hm hn ha (ht.below hb))
  clear ht hm hn ha
  go_enter Tryz.func33, Tryz.ntmps33
  go_wp2_with fail
  have hq : Below w.heap.size w (w.alloc (.cells #[.slice (some ⟨g, o, none⟩) (m + 1) c] 45)) := (Below.refl _ _).alloc (Nat.le_refl _) _
  refine (HL.out _ hq).mono ?_
  rintro e w1 ⟨rfl, hb1⟩
  have HF := fun w => fld0 a.kind a.n a.kids a.text w
  go_wp2
  go_ret
  exact ⟨rfl, hq.trans (hb1.mono hq.size)⟩
/-- The place of a name among a record's kids. -/
def isAt (ks : List T) (s : ByteArray) (i : Nat) : Bool := decide (i % 2 = 0 ∧ i + 1 < ks.length) && ((ks[i]?.map fun k => k.text.toList == s.toList).getD false)
def getAt (ks : List T) (s : ByteArray) : Option Nat := (List.range ks.length).find? (isAt ks s)
theorem getAt_some {ks : List T} {s : ByteArray} {i : Nat} (h : isAt ks s i = true) (hn : ∀ j, j < i → isAt ks s j = false) : getAt ks s = some i := by
  unfold getAt
  rw [List.find?_range_eq_some]
  refine ⟨h, ?_, fun j hj => by rw [hn j hj]; rfl⟩
  unfold isAt at h
  simp only [Bool.and_eq_true, decide_eq_true_eq] at h
  rw [List.mem_range]; omega
theorem getAt_none {ks : List T} {s : ByteArray} (h : ∀ j, isAt ks s j = false) : getAt ks s = none := by
  unfold getAt
  rw [List.find?_eq_none]
  intro j _
  rw [h j]; simp
/-- What l5Get hands back. -/
def GPost (w : World) (ks : List T) (s : ByteArray) (e : Ending) (w' : World) : Prop := Below w.heap.size w w' ∧ match getAt ks s with
  | none => e = .returned (.tuple #[.agg #[.slice none 0 0], .bool false])
  | some i => ∃ (h : i + 1 < ks.length) (g o c : Nat), e = .returned (.tuple #[.agg #[.slice (some ⟨g, o, none⟩) (ks[i + 1]).count c], .bool true]) ∧ AtomsO w' g o (ks[i + 1]).atoms ∧ (ks[i + 1]).count ≤ c
/-- The boxes of l5Get: its value's, its answer's. -/
structure GB (w : World) (W : World) : Prop where
  B : Below w.heap.size w W
  r : W.cell? ⟨w.heap.size + 1, 0, none⟩ = some (.slice none 0 0)
  f : W.frozen? ⟨w.heap.size + 1, 0, none⟩ = false
  z : w.heap.size + 1 < W.heap.size
  k : W.heap[w.heap.size + 1]? = some (.cells #[.slice none 0 0] 45)
theorem GB.ne {w W : World} (h : GB w W) {g o : Nat} {l : List At} (ha : AtomsO W g o l) (hl : 0 < l.length) : w.heap.size + 1 ≠ g := by
  rintro rfl
  have h0 := (ha.2 0 hl).1
  simp only [World.cell?, h.k] at h0
  match hq : o + 0 * 4 with
  | 0 => simp [hq] at h0
  | k + 1 => simp [hq] at h0
theorem GB.below {w W W' : World} (h : GB w W) (hb : Below W.heap.size W W') : GB w W' := by
  have hz := h.z
  exact ⟨h.B.trans (hb.mono h.B.size), (hb.cell (p := ⟨w.heap.size + 1, 0, none⟩) (by show w.heap.size + 1 < _; omega)).trans h.r, (hb.frozen (p := ⟨w.heap.size + 1, 0, none⟩) (by show w.heap.size + 1 < _; omega)).trans h.f, Nat.lt_of_lt_of_le hz hb.size, (hb.block _ hz).trans h.k⟩
theorem GB.start (w : World) (va : Value) : GB w ((w.alloc (.cells #[va] 45)).alloc (.cells #[.slice none 0 0] 45)) := by
  have c2 := cell_new (w.alloc (.cells #[va] 45)) (.slice none 0 0) 45
  simp only [World.size_alloc] at c2
  exact ⟨((Below.refl _ _).alloc (Nat.le_refl _) _).alloc (by simp) _, c2.1, c2.2, by simp, by have := heap_alloc_new (w.alloc (.cells #[va] 45)) (.cells #[.slice none 0 0] 45); rwa [World.size_alloc] at this⟩
set_option maxRecDepth 100000 in
set_option maxHeartbeats 1000000 in
theorem get5_any (t : T) (s : ByteArray) (g o c m : Nat) (w : World) (hm : t.count = m + 1) (h1 : m < 1000) (hc : m + 1 ≤ c) (ht : AtomsO w g o t.atoms) :
    Calls Tryz.prog 53 #[.agg #[.slice (some ⟨g, o, none⟩) (m + 1) c], .string s] w (GPost w t.ks s) := by
  have HKD := hide (fun w1 (hb : Below w.heap.size w w1) => kids5_any t.atoms g o c m w1 hm (by omega) (ht.below hb) hc)
  have hE := hide (T.count_eq t)
  have HM := hide hm
  clear ht hm
  go_enter Tryz.func53, Tryz.ntmps53
  have o0 := GB.start w (.slice (some ⟨g, o, none⟩) (m + 1) c)
  go_wp2_with fail
  refine (HKD.out _ o0.B).mono ?_
  rintro e w1 ⟨g7, c7, nk, vs, ok, rfl, ⟨hyes, -⟩, hb1⟩
  obtain ⟨rfl, rfl, hown, hkids⟩ := hyes t (treeOf_atoms t)
  have O1 := hide (o0.below hb1)
  have HOA := hide hown
  have HKD2 := hide hkids
  clear hyes hown hkids hb1 o0
  have hla : t.ks.length ≤ 1000 := by have := len_le_atomsL t.ks; have := hE.out; have := HM.out; omega
  go_wp2
  go_loopw [8] (fun q wr => ∃ i : Nat, i ≤ t.ks.length + 1 ∧ i % 2 = 0 ∧ q = .int .i64 i ∧ Below w1.heap.size w1 wr ∧ ∀ j, j < i → isAt t.ks s j = false) (fun q _ => t.ks.length + 2 - (intOf q).toNat)
  case atStart => exact ⟨0, by omega, rfl, rfl, Below.refl _ _, fun j h => absurd h (Nat.not_lt_zero _)⟩
  case round =>
    obtain ⟨i, hia, hi2, rfl, hB, hno⟩ := hrel
    have HNO := hide hno
    clear hno
    have O2 := hide (O1.out.below hB)
    by_cases hlt : i + 1 < t.ks.length
    · obtain ⟨gx, ox, cx, hvx, hatx, hcx⟩ := HKD2.out.2 i (by omega)
      obtain ⟨gy, oy, cy, hvy, haty, hcy⟩ := HKD2.out.2 (i + 1) hlt
      obtain ⟨mx, hmx⟩ : ∃ mx, (t.ks[i]).count = mx + 1 := ⟨(t.ks[i]).count - 1, by have := atoms_pos t.ks[i]; unfold T.count; omega⟩
      have hsx := count_mem t.ks i (by omega)
      rw [hmx] at hvx hsx
      have hmx1 : mx < 1000 := by have := hE.out; have := HM.out; omega
      have HL := hide (fun w' (hb : Below wr.heap.size wr w') => last_any ⟨(t.ks[i]).kind, (t.ks[i]).num, (t.ks[i]).text, (t.ks[i]).ks.length⟩ (t.ks[i]).atoms gx ox cx mx w' hmx (by omega) (atoms_last _ mx hmx) ((hatx.below hB).below hb))
      have kx := (hB.cell (p := ⟨g7, i, none⟩) (row_room HOA.out).2.2).trans ((HOA.out.cellAt i (by omega)).trans hvx)
      have HKY := hide (fun W (hb : Below wr.heap.size wr W) => ((hB.trans (hb.mono hB.size)).cell (p := ⟨g7, i + 1, none⟩) (row_room HOA.out).2.2).trans ((HOA.out.cellAt (i + 1) (by omega)).trans hvy))
      have HAY := hide (fun W (hb : Below wr.heap.size wr W) => (haty.below hB).below hb)
      have HIS : Hid (isAt t.ks s i = ((t.ks[i]).text.toList == s.toList)) := (by unfold isAt; rw [decide_eq_true ⟨hi2, hlt⟩, List.getElem?_eq_getElem (show i < t.ks.length from by omega)]; rfl)
      have HIO : Hid (isAt t.ks s (i + 1) = false) := (by unfold isAt; rw [decide_eq_false (by omega)]; rfl)
      have HF := fun w => fld2' (t.ks[i]).kind (t.ks[i]).num (t.ks[i]).ks.length (t.ks[i]).text w
      clear hatx haty hmx hvx hvy
      generalize (t.ks[i]).kind = kk at *
      generalize (t.ks[i]).num = nn at *
      generalize ((t.ks[i]).ks.length : Int) = ll at *
      generalize (t.ks[i]).text = tx at *
      go_wp2_with fail
      refine (HL.out _ (Below.refl _ _)).mono ?_
      rintro e w3 ⟨rfl, hb3⟩
      have O3 := hide (O2.out.below hb3)
      have HBB := hide (hB.trans (hb3.mono hB.size))
      cases hq : (tx.toList == s.toList)
      · rw [hq] at HIS
        go_wp2
        go_roundw
        case rel => exact ⟨i + 2, by omega, by omega, by go_num, HBB.out, fun j hj => by rcases Nat.lt_or_ge j i with h | h; exact HNO.out j h; rcases Nat.lt_or_ge i j with h' | h'; rw [show j = i + 1 from by omega]; exact HIO.out; rw [show j = i from by omega]; exact HIS.out⟩
        case measure => simp [intOf]; omega
      · rw [hq] at HIS
        have HG : Hid (getAt t.ks s = some i) := getAt_some HIS.out HNO.out
        have ky := HKY.out _ hb3
        have hat := HAY.out _ hb3
        have hne := O3.out.ne hat (atoms_pos _)
        have HAT := hide hat
        have r3 := O3.out.r
        have f3 := O3.out.f
        have hw1 : wrap64 ((i : Int) + 1) = ((i + 1 : Nat) : Int) := by unfold wrap64; omega
        clear hat
        go_wp2
        refine bodyPost_ret (v := .tuple #[.agg #[.slice (some ⟨gy, oy, none⟩) (t.ks[i + 1]).count cy], .bool true]) (by simp [results, Tryz.results53, go_sem, r3]) rfl ?_
        refine ⟨O3.out.B.setCell (p := ⟨w.heap.size + 1, 0, none⟩) (by show w.heap.size ≤ w.heap.size + 1; omega) _, ?_⟩
        rw [HG.out]
        exact ⟨hlt, gy, oy, cy, rfl, atomsO_set HAT.out _ hne _, hcy⟩
    · have HG : Hid (getAt t.ks s = none) := getAt_none (fun j => by
        by_cases hj : j < i
        · exact HNO.out j hj
        · unfold isAt; rw [decide_eq_false (by omega)]; rfl)
      have hw : ¬ ((i : Int) + 1 < (t.ks.length : Int)) := by omega
      have r3 := O2.out.r
      have f3 := O2.out.f
      go_wp2
      refine bodyPost_ret (v := .tuple #[.agg #[.slice none 0 0], .bool false]) (by simp [results, Tryz.results53, go_sem, r3]) rfl ?_
      refine ⟨O2.out.B.setCell (p := ⟨w.heap.size + 1, 0, none⟩) (by show w.heap.size ≤ w.heap.size + 1; omega) _, ?_⟩
      rw [HG.out]
end Go.Proofs.YtmpjdooepdicoaaGreatDoor.Vl
