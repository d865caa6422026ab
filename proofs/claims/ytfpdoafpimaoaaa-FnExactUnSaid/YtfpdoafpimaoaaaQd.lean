/- Walks: the last atom and the kids of a value, on the specification's side. -/
import Derived.Test.YtfpdoafpimaoaaaQb
namespace Go.Proofs.Ytfpdoafpimaoaaa.Vl
open Go.RowKit T.atoms T.ok T.high T.good T.allPlain

set_option maxHeartbeats 400000 in
theorem last_any (a : At) (l : List At) (g o c m : Nat) (w : World) (hm : l.length = m + 1) (hn : m < 1048576) (ha : l[m]? = some a) (ht : AtomsO w g o l) :
    Calls Try.prog 32 #[.agg #[.slice (some ⟨g, o, none⟩) (m + 1) c]] w fun e w' => e = .returned (.agg #[.int .i64 a.kind, .int .i64 a.n, .string a.text, .int .i64 a.kids]) ∧ Below w.heap.size w w' := by
  obtain ⟨c0, c1, c2, c3⟩ := ht.2 m (by omega)
  have e : l[m]'(by omega) = a := by rw [List.getElem?_eq_getElem (by omega)] at ha; exact Option.some.inj ha
  rw [e] at c0 c1 c2 c3
  have hg := ht.1
  have r1 : Below w.heap.size w ((w.alloc (.cells #[.slice (some ⟨g, o, none⟩) (m + 1) c] 25)).alloc (.cells #[.int .i64 0, .int .i64 0, .string ⟨#[]⟩, .int .i64 0] 55)) := ((Below.refl _ _).alloc (Nat.le_refl _) _).alloc (by simp) _
  have d0 := (r1.cell (p := ⟨g, o + m * 4, none⟩) hg).trans c0
  have d1 := (r1.cell (p := ⟨g, o + m * 4 + 1, none⟩) hg).trans c1
  have d2 := (r1.cell (p := ⟨g, o + m * 4 + 2, none⟩) hg).trans c2
  have d3 := (r1.cell (p := ⟨g, o + m * 4 + 3, none⟩) hg).trans c3
  clear ht e ha
  go_enter Try.func32, Try.ntmps32
  go_wp2
  refine bodyPost_ret (v := .agg #[.int .i64 a.kind, .int .i64 a.n, .string a.text, .int .i64 a.kids]) (by simp [results, Try.results32, go_sem]) rfl ⟨rfl, ?_⟩
  exact ((Below.refl _ _).alloc (Nat.le_refl _) _).alloc (by simp) _

theorem last_T (t : T) (g o c : Nat) (w : World) (hn : t.count ≤ 1048576) (ht : AtomsO w g o t.atoms) :
    Calls Try.prog 32 #[.agg #[.slice (some ⟨g, o, none⟩) t.count c]] w fun e w' => e = .returned (.agg #[.int .i64 t.kind, .int .i64 t.num, .string t.text, .int .i64 t.ks.length]) ∧ Below w.heap.size w w' := by
  obtain ⟨m, hm⟩ : ∃ m, t.count = m + 1 := ⟨(atomsL t.ks).length, by rw [T.count_eq]; omega⟩
  rw [hm]
  refine last_any ⟨t.kind, t.num, t.text, t.ks.length⟩ t.atoms g o c m w hm (by omega) ?_ ht
  have hm2 := T.count_eq t
  rw [T.atoms_eq, List.getElem?_append_right (by omega), show m - (atomsL t.ks).length = 0 from by omega]
  rfl

/-- Where each open value begins. -/
def starts (st : List T) : List Nat := (List.range st.length).map fun j => (atomsL (st.take j)).length
theorem starts_len (st : List T) : (starts st).length = st.length := by simp [starts]
theorem starts_at (st : List T) (j : Nat) (h : j < st.length) : (starts st)[j]? = some (atomsL (st.take j)).length := by simp [starts, h]
theorem starts_take (st : List T) (m : Nat) (t : T) (h : m ≤ st.length) : starts (st.take m ++ [t]) = (starts st).take m ++ [(atomsL (st.take m)).length] := by
  apply List.ext_getElem?
  intro j
  by_cases hj : j < m
  · rw [starts_at _ j (by simp; omega), List.getElem?_append_left (by simp [starts_len]; omega), List.getElem?_take_of_lt hj, starts_at _ j (by omega)]
    rw [List.take_append_of_le_length (by simp; omega), List.take_take, Nat.min_eq_left (by omega)]
  · by_cases hj2 : j = m
    · subst hj2
      rw [starts_at _ j (by simp; omega), List.getElem?_append_right (by simp [starts_len]; omega)]
      rw [List.take_append_of_le_length (by simp; omega), List.take_take, Nat.min_self]
      simp [starts_len, Nat.min_eq_left h]
    · rw [List.getElem?_eq_none (by simp [starts_len]; omega), List.getElem?_eq_none (by simp [starts_len]; omega)]
theorem run_next (l : List At) (i : Nat) (st : List T) (a : At) (ha : l[i]? = some a) (k m : Nat) (hk : a.kids = k) (hm : st.length = m + k) (h : run (l.take i) [] = some st) : run (l.take (i + 1)) [] = some (st.take m ++ [.mk a.kind a.n a.text (st.drop m)]) := by
  have hi : i < l.length := (List.getElem?_eq_some_iff.1 ha).1
  have e : l[i] = a := (List.getElem?_eq_some_iff.1 ha).2
  rw [List.take_succ_eq_append_getElem hi, run_append, h, e]
  simp only [Option.bind_some, run]
  rw [if_neg (by omega), show st.length - a.kids.toNat = m from by omega]
theorem run_stop (l : List At) (i : Nat) (st : List T) (a : At) (ha : l[i]? = some a) (hk : a.kids < 0 ∨ (st.length : Int) < a.kids) (h : run (l.take i) [] = some st) : treeOf l = none := by
  have hi : i < l.length := (List.getElem?_eq_some_iff.1 ha).1
  have e : l[i] = a := (List.getElem?_eq_some_iff.1 ha).2
  have q : run l [] = none := by
    conv => lhs; rw [← List.take_append_drop i l]
    rw [run_append, h, List.drop_eq_getElem_cons hi, e]
    simp only [Option.bind_some, run]
    rw [if_pos hk]
  unfold treeOf; rw [q]
theorem run_last (l : List At) (i : Nat) (st : List T) (a : At) (hl : l.length = i + 1) (ha : l[i]? = some a) (k m : Nat) (hk : a.kids = k) (hm : st.length = m + k) (h : run (l.take i) [] = some st) : treeOf l = if m = 0 then some (.mk a.kind a.n a.text st) else none := by
  have q := run_next l i st a ha k m hk hm h
  rw [← hl, List.take_length] at q
  unfold treeOf; rw [q]
  by_cases e : m = 0
  · subst e; simp
  · rw [if_neg e]
    match hst : st.take m with
    | [] => have := congrArg List.length hst; rw [List.length_take, List.length_nil] at this; omega
    | [x] => rfl
    | x :: y :: r => rfl

/-- What l5Kids answers. -/
def KRes (w w' : World) (l : List At) (g7 c7 n : Nat) (vs : List Value) (ok : Bool) : Prop :=
  (∀ t, treeOf l = some t → ok = true ∧ n = t.ks.length ∧ w'.ownsRow w.heap.size 25 1 (.slice (some ⟨g7, 0, none⟩) n c7) n vs ∧ KidsAt w' vs t.ks) ∧ (treeOf l = none → ok = false)
def KPost (w : World) (l : List At) (e : Ending) (w' : World) : Prop := ∃ g7 c7 n vs ok, e = .returned (.tuple #[.slice (some ⟨g7, 0, none⟩) n c7, .bool ok]) ∧ KRes w w' l g7 c7 n vs ok ∧ Below w.heap.size w w'
theorem kpost_no {w w' : World} {l : List At} {g7 c7 n : Nat} (h : treeOf l = none) (hb : Below w.heap.size w w') : KPost w l (.returned (.tuple #[.slice (some ⟨g7, 0, none⟩) n c7, .bool false])) w' :=
  ⟨g7, c7, n, [], false, rfl, ⟨fun t e => (by rw [h] at e; cases e), fun _ => rfl⟩, hb⟩
theorem kpost_yes {w w' : World} {l : List At} {g7 c7 : Nat} {vs : List Value} {a b : Int} {s : ByteArray} {ks : List T} (h : treeOf l = some (.mk a b s ks)) (ho : w'.ownsRow w.heap.size 25 1 (.slice (some ⟨g7, 0, none⟩) ks.length c7) ks.length vs) (hk : KidsAt w' vs ks) (hb : Below w.heap.size w w') :
    KPost w l (.returned (.tuple #[.slice (some ⟨g7, 0, none⟩) ks.length c7, .bool true])) w' :=
  ⟨g7, c7, ks.length, vs, true, rfl, ⟨fun t e => (by rw [h] at e; cases e; exact ⟨rfl, rfl, ho, hk⟩), fun e => (by rw [h] at e; cases e)⟩, hb⟩
/-- A kid as a part of the row. -/
def kval (g o c : Nat) (st : List T) (x : Nat) : Value := .slice (some ⟨g, o + (atomsL (st.take x)).length * 4, none⟩) ((st[x]?.map T.count).getD 0) (c - (atomsL (st.take x)).length)
def kvals (g o c : Nat) (st : List T) (q j : Nat) : List Value := (List.range j).map fun x => kval g o c st (q + x)
theorem kvals_len (g o c : Nat) (st : List T) (q j : Nat) : (kvals g o c st q j).length = j := by simp [kvals]
theorem kvals_succ (g o c : Nat) (st : List T) (q j : Nat) : kvals g o c st q (j + 1) = kvals g o c st q j ++ [kval g o c st (q + j)] := by simp [kvals, List.range_succ]
theorem kvals_kids {w : World} {g o c : Nat} {l : List At} {st : List T} {r : List At} (ht : AtomsO w g o l) (hl : l = atomsL st ++ r) (hc : l.length ≤ c) : KidsAt w (kvals g o c st 0 st.length) st := by
  refine ⟨kvals_len _ _ _ _ _ _, fun j hj => ?_⟩
  have e : st = st.take j ++ [st[j]] ++ st.drop (j + 1) := by rw [← List.take_succ_eq_append_getElem hj, List.take_append_drop]
  have e2 : l = atomsL (st.take j) ++ (st[j]).atoms ++ (atomsL (st.drop (j + 1)) ++ r) := by
    have h := congrArg atomsL e
    rw [atomsL_append, atomsL_append] at h
    rw [hl, h]
    simp [atomsL]
  have hlen := congrArg List.length e2
  simp only [List.length_append] at hlen
  refine ⟨g, o + (atomsL (st.take j)).length * 4, c - (atomsL (st.take j)).length, ?_, ht.part e2, ?_⟩
  · simp [kvals, kval, hj]
  · unfold T.count; omega

set_option maxRecDepth 100000 in
set_option maxHeartbeats 1000000 in
theorem kids5_any (l : List At) (g o c m : Nat) (w : World) (hl : l.length = m + 1) (hn : m < 1048576) (ht : AtomsO w g o l) (hc : m + 1 ≤ c) :
    Calls Try.prog 52 #[.agg #[.slice (some ⟨g, o, none⟩) (m + 1) c]] w fun e w' => KPost w l e w' := by
  obtain ⟨iI, hI, hIz, hIs, hIb⟩ := info_parts Try.infoInt
  obtain ⟨iV, hV, hVz, hVs, hVb⟩ := info_parts Try.infoVal
  have HT := hide ht
  have HL := hide hl
  clear ht hl
  go_enter Try.func52, Try.ntmps52
  go_wp2
  go_loopw [4, 5] (fun v4 t wr => ∃ (i : Nat) (st : List T) (g4 c4 : Nat), i ≤ m ∧ t = .int .i64 i ∧ v4 = .slice (some ⟨g4, 0, none⟩) st.length c4 ∧ wr.ownsRow (w.heap.size + 1) 3 1 (.slice (some ⟨g4, 0, none⟩) st.length c4) st.length ((starts st).map vint) ∧ st.length ≤ i ∧
      Below w.heap.size w wr ∧ w.heap.size < wr.heap.size ∧ wr.cell? ⟨w.heap.size, 0, none⟩ = some (.slice (some ⟨g, o, none⟩) (m + 1) c) ∧ run (l.take i) [] = some st) (fun _ t _ => m + 1 - (intOf t).toNat)
  case atStart =>
    refine ⟨0, [], w.heap.size + 1, 0, Nat.zero_le _, rfl, rfl, ?_, Nat.le_refl _, ?_, by rw [World.size_alloc, World.size_alloc]; omega, ?_, rfl⟩
    · have := World.ownsRow_lit (base := w.heap.size + 1) (e := 3) (size := 1) (w.alloc (.cells #[.slice (some ⟨g, o, none⟩) (m + 1) c] 25)) #[] 0 (by simp) (Nat.zero_le _) rfl
      rw [World.size_alloc] at this
      exact this
    · exact ((Below.refl _ _).alloc (Nat.le_refl _) _).alloc (by simp) _
    · have h1 : Below (w.heap.size + 1) (w.alloc (.cells #[.slice (some ⟨g, o, none⟩) (m + 1) c] 25)) ((w.alloc (.cells #[.slice (some ⟨g, o, none⟩) (m + 1) c] 25)).alloc (.cells #[] 3)) := (Below.refl _ _).alloc (by simp) _
      exact (h1.cell (p := ⟨w.heap.size, 0, none⟩) (Nat.lt_succ_self _)).trans (by simp)
  case round =>
    obtain ⟨i, st, g4, c4, him, rfl, rfl, ho4, hsl, hB, hlt0, hc0, hrun⟩ := hrel
    have HR := hide hrun
    clear hrun
    have hil : i < l.length := by have := HL.out; omega
    obtain ⟨_, _, _, hK⟩ := HT.out.2 i hil
    have a0 := (hB.cell (p := ⟨g, o + i * 4 + 3, none⟩) HT.out.1).trans hK
    have HA := hide (List.getElem?_eq_getElem hil)
    generalize l[i] = a at *
    clear hK
    obtain ⟨hcap, hb4, hg4⟩ := row_room ho4
    have hsl2 := (congrArg List.length (run_atoms _ _ _ HR.out))
    have hai : (atomsL st).length = i := by rw [hsl2]; simp [atomsL]; omega
    have HAI := hide hai
    clear hsl2 hai
    by_cases hneg : a.kids < 0
    · have HN := hide (run_stop l i st a HA.out (.inl hneg) HR.out)
      go_wp2
      exact bodyPost_ret (v := .tuple #[.slice (some ⟨wr.heap.size, 0, none⟩) 0 0, .bool false]) (by simp [results, Try.results52, go_sem]) rfl (kpost_no HN.out (hB.alloc hB.size _))
    · by_cases hbig : (st.length : Int) < a.kids
      · have HN := hide (run_stop l i st a HA.out (.inr hbig) HR.out)
        go_wp2
        exact bodyPost_ret (v := .tuple #[.slice (some ⟨wr.heap.size, 0, none⟩) 0 0, .bool false]) (by simp [results, Try.results52, go_sem]) rfl (kpost_no HN.out (hB.alloc hB.size _))
      · obtain ⟨k, hk⟩ : ∃ k : Nat, a.kids = k := ⟨a.kids.toNat, by omega⟩
        obtain ⟨q, hq⟩ : ∃ q, st.length = q + k := ⟨st.length - k, by omega⟩
        have HK := hide hk
        rw [hk] at hneg hbig a0
        clear hk
        have hq1 : ¬ ((q : Int) + (k : Int) < (k : Int)) := by omega
        have hst : ∀ j, j < q + k → wr.cell? ⟨g4, j, none⟩ = some (.int .i64 (atomsL (st.take j)).length) := by
          intro j hj
          rw [ho4.cellAt j (by omega), List.getElem?_map, starts_at st j (by omega)]
          rfl
        have HST := hide hst
        clear hst
        by_cases hlast : i = m
        · subst hlast
          have HLS := hide (run_last l i st a HL.out HA.out k q HK.out hq HR.out)
          have HAT := hide (run_atoms _ _ _ HR.out)
          have hzr := hB.size
          obtain ⟨w0, hw0⟩ : ∃ w0, w0 = wr := ⟨_, rfl⟩
          subst hw0
          go_wp2
          go_loopw [7, 8] (fun v7 t wr => ∃ (j g7 c7 : Nat), j ≤ k ∧ t = .int .i64 j ∧ v7 = .slice (some ⟨g7, 0, none⟩) j c7 ∧ wr.ownsRow w0.heap.size 25 1 (.slice (some ⟨g7, 0, none⟩) j c7) j (kvals g o c st q j) ∧ Below w0.heap.size w0 wr) (fun _ t _ => k - (intOf t).toNat)
          case atStart =>
            refine ⟨0, w0.heap.size, 0, Nat.zero_le _, rfl, rfl, ?_, ?_⟩
            · exact World.ownsRow_lit (base := w0.heap.size) (e := 25) (size := 1) w0 #[] 0 (Nat.le_refl _) (Nat.zero_le _) rfl
            · exact (Below.refl _ _).alloc (Nat.le_refl _) _
          case round =>
            obtain ⟨j, g7, c7, hjk, rfl, rfl, ho7, hBx⟩ := hrel
            have hszx := hBx.size
            by_cases hlt : j < k
            · obtain ⟨s1, hs1⟩ : ∃ s1, (atomsL (st.take (q + j))).length = s1 := ⟨_, rfl⟩
              have hqj : q + j < st.length := by omega
              obtain ⟨kid, hkid⟩ : ∃ kid, st[q + j] = kid := ⟨_, rfl⟩
              obtain ⟨n, hcn⟩ : ∃ n, kid.count = n := ⟨_, rfl⟩
              have hs2 : (atomsL (st.take (q + j + 1))).length = s1 + n := by
                rw [List.take_succ_eq_append_getElem hqj, atomsL_append, List.length_append, hs1, hkid]
                simp [atomsL, ← hcn, T.count]
              have hsi : s1 + n ≤ i := by rw [← hs2, ← HAI.out]; exact atomsL_take_le _ _
              have hn0 : 0 < n := by rw [← hcn]; exact atoms_pos kid
              have hcs : ¬ (c = s1) := by omega
              have b1 := HST.out (q + j) (by omega)
              rw [hs1] at b1
              have b2 : ∀ h : j + 1 < k, w0.cell? ⟨g4, q + j + 1, none⟩ = some (.int .i64 ((s1 : Int) + (n : Int))) := by
                intro h
                have := HST.out (q + j + 1) (by omega)
                rw [hs2] at this
                rw [this]; rfl
              have b3 : ¬ (j + 1 < k) → s1 + n = i := by
                intro h
                rw [← hs2, List.take_of_length_le (by omega)]; exact HAI.out
              have d1 := (hBx.cell (p := ⟨g4, q + j, none⟩) hg4).trans b1
              have d0 := (hBx.cell (p := ⟨w.heap.size, 0, none⟩) hlt0).trans hc0
              have HB2 := hide b2
              have HB3 := hide b3
              have HS1 := hide hs1
              have HCN := hide hcn
              have HKD := hide hkid
              have HO := hide ho7
              clear hs1 hkid hs2 b1 b2 b3 hcn ho7
              have keep : ∀ w5, (wr.alloc (.cells #[.slice (some ⟨g, o + s1 * 4, none⟩) n (c - s1)] 25)).drew.grownBy w5 (some g7) → w5.cell? ⟨w.heap.size, 0, none⟩ = some (.slice (some ⟨g, o, none⟩) (i + 1) c) ∧ w5.cell? ⟨g4, q + j, none⟩ = some (.int .i64 (s1 : Int)) := by
                intro w5 h2
                have e : ∀ b, b < w0.heap.size → w5.heap[b]? = wr.heap[b]? := fun b hb => (h2.block b (by show b < (wr.alloc _).heap.size; simp; omega) (by have := (row_room HO.out).2.1; simp; omega)).trans (((Below.refl wr.heap.size wr).alloc (Nat.le_refl _) _).block b (by omega))
                exact ⟨(World.cell?_of_block (a := ⟨w.heap.size, 0, none⟩) (e _ hlt0)).trans d0, (World.cell?_of_block (a := ⟨g4, q + j, none⟩) (e _ hg4)).trans d1⟩
              have HKEEP := hide keep
              clear keep
              have z0 : IntKind.i64.wrap (q : Int) = (q : Int) := by rw [IntKind.wrap_i64]; omega
              have z1 : IntKind.i64.wrap ((q : Int) + (k : Int) - (k : Int)) = (q : Int) := by rw [IntKind.wrap_i64]; omega
              have z2 : IntKind.i64.wrap ((q : Int) + (j : Int)) = (q : Int) + (j : Int) := by rw [IntKind.wrap_i64]; omega
              have z3 : (0 : Int) ≤ (q : Int) + (j : Int) := by omega
              have z4 : (q : Int) + (j : Int) < (q : Int) + (k : Int) := by omega
              have z5 : ((q : Int) + (j : Int)).toNat = q + j := by omega
              have z6 : (j : Int) < (k : Int) := by omega
              have z7 : (0 : Int) ≤ (s1 : Int) := by omega
              have z8 : (s1 : Int) ≤ (s1 : Int) + (n : Int) := by omega
              have z9 : (s1 : Int) + (n : Int) ≤ (c : Int) := by omega
              have y1 : ((s1 : Int) + (n : Int)).toNat = s1 + n := by omega
              have y2 : s1 + n - s1 = n := by omega
              have fin : ∀ v5 w5, w5.ownsRow w0.heap.size 25 1 v5 (j + 1) (kvals g o c st q j ++ [.slice (some ⟨g, o + s1 * 4, none⟩) n (c - s1)]) → (wr.alloc (.cells #[.slice (some ⟨g, o + s1 * 4, none⟩) n (c - s1)] 25)).drew.grownBy w5 (Value.slice (some ⟨g7, 0, none⟩) j c7).ownBlock → (v5 = .slice none 0 0 ↔ Value.slice (some ⟨g7, 0, none⟩) j c7 = .slice none 0 0 ∧ 1 = 0) →
                  (v5.ownBlock = (Value.slice (some ⟨g7, 0, none⟩) j c7).ownBlock ∨ v5.ownBlock = some (wr.alloc (.cells #[.slice (some ⟨g, o + s1 * 4, none⟩) n (c - s1)] 25)).drew.heap.size) →
                  ∃ (j2 g7' c7' : Nat), j2 ≤ k ∧ (Value.int .i64 ((j : Int) + 1)) = .int .i64 j2 ∧ v5 = .slice (some ⟨g7', 0, none⟩) j2 c7' ∧ w5.ownsRow w0.heap.size 25 1 (.slice (some ⟨g7', 0, none⟩) j2 c7') j2 (kvals g o c st q j2) ∧ Below w0.heap.size w0 w5 := by
                intro v5 w5 h1 h2 h3 h4
                obtain ⟨g5, c5, rfl, hg5⟩ := lies_form h1 (fun e => by simpa using (h3.1 e).2) (by simpa [Value.ownBlock] using h4)
                refine ⟨j + 1, g5, c5, by omega, by go_num, rfl, ?_, ?_⟩
                · rw [kvals_succ, show kval g o c st (q + j) = .slice (some ⟨g, o + s1 * 4, none⟩) n (c - s1) from ?_]
                  · exact h1
                  · have hqj : q + j < st.length := by omega
                    have hk2 := HKD.out
                    simp [kval, HS1.out, hqj, hk2, HCN.out]
                · exact ((hBx.alloc hBx.size _).drew).grown h2 (by show w0.heap.size ≤ (wr.alloc _).heap.size; simp; omega) (fun x e => by simp [Value.ownBlock] at e; have := (row_room HO.out).2.1; omega)
              have HFI := hide fin
              clear fin
              by_cases he : j + 1 < k
              · have d2 := (hBx.cell (p := ⟨g4, q + j + 1, none⟩) hg4).trans (HB2.out he)
                have he' : (j : Int) + 1 < (k : Int) := by omega
                go_wp2
                go_region_held3 (fun w' => w'.cell? ⟨w.heap.size, 0, none⟩ = some (.slice (some ⟨g, o, none⟩) (i + 1) c) ∧ w'.cell? ⟨g4, q + j, none⟩ = some (.int .i64 (s1 : Int))) (go_keep) ((refine step_append_own rfl (.tmp 61) (.tmp 76) 98 rfl w0.heap.size 25 iV _ 1 24 Try.underlying98 hV hVz hVs hVb rfl (by decide) (.slice (some ⟨g7, 0, none⟩) j c7) j (kvals g o c st q j) (by simp [Act.eval]) (HO.out.alloc _).drew ⟨wr.heap.size, 0, none⟩ 1 1 [.slice (some ⟨g, o + s1 * 4, none⟩) n (c - s1)] (by simp [Act.eval]) rfl (cell_one _ _ _) (by simp [Value.oneCell']) (by unfold maxLen; omega) (by omega) (by simp; omega) ?_; intro v5 w5 h1 h2 h3 h4; have k5 := HKEEP.out _ h2))
                all_goals
                  have HX : Hid _ := hide (HFI.out _ _ h1 h2 h3 h4)
                  clear h1 h2 h3 h4 k5
                  go_wp2
                  go_roundw
                  case rel => exact HX.out
                  case measure => simp [intOf]; omega
              · have he' : ¬ ((j : Int) + 1 < (k : Int)) := by omega
                have hi2 : (i : Int) = (s1 : Int) + (n : Int) := by have := HB3.out he; omega
                have z10 : (s1 : Int) ≤ (i : Int) := by omega
                have z11 : (i : Int) ≤ (c : Int) := by omega
                have y3 : i - s1 = n := by omega
                clear hi2
                go_wp2
                go_region_held3 (fun w' => w'.cell? ⟨w.heap.size, 0, none⟩ = some (.slice (some ⟨g, o, none⟩) (i + 1) c) ∧ w'.cell? ⟨g4, q + j, none⟩ = some (.int .i64 (s1 : Int))) (go_keep) ((refine step_append_own rfl (.tmp 61) (.tmp 76) 98 rfl w0.heap.size 25 iV _ 1 24 Try.underlying98 hV hVz hVs hVb rfl (by decide) (.slice (some ⟨g7, 0, none⟩) j c7) j (kvals g o c st q j) (by simp [Act.eval]) (HO.out.alloc _).drew ⟨wr.heap.size, 0, none⟩ 1 1 [.slice (some ⟨g, o + s1 * 4, none⟩) n (c - s1)] (by simp [Act.eval]) rfl (cell_one _ _ _) (by simp [Value.oneCell']) (by unfold maxLen; omega) (by omega) (by simp; omega) ?_; intro v5 w5 h1 h2 h3 h4; have k5 := HKEEP.out _ h2))
                all_goals
                  have HX : Hid _ := hide (HFI.out _ _ h1 h2 h3 h4)
                  clear h1 h2 h3 h4 k5
                  go_wp2
                  go_roundw
                  case rel => exact HX.out
                  case measure => simp [intOf]; omega
            · obtain rfl : j = k := by omega
              by_cases hq0 : q = 0
              · subst hq0
                rw [Nat.zero_add] at hq
                have HTR := HLS.out
                rw [if_pos rfl] at HTR
                replace HTR := hide HTR
                have hfin : KPost w l (.returned (.tuple #[.slice (some ⟨g7, 0, none⟩) j c7, .bool true])) wr := by
                  rw [← hq] at ho7 ⊢
                  refine kpost_yes HTR.out (row_mono ho7 (by omega)) (kvals_kids (r := l.drop i) ((HT.out.below hB).below hBx) ?_ (by have := HL.out; omega)) (hB.trans (hBx.mono hB.size))
                  rw [HAT.out]; simp [atomsL]
                have HFIN := hide hfin
                clear hfin
                go_wp2
                exact bodyPost_ret (v := .tuple #[.slice (some ⟨g7, 0, none⟩) j c7, .bool true]) (by simp [results, Try.results52, go_sem]) rfl HFIN.out
              · have HTR := HLS.out
                rw [if_neg hq0] at HTR
                replace HTR := hide HTR
                have hd : ¬ ((q : Int) = 0) := by omega
                have hd2 : ((j : Int) == (q : Int) + (j : Int)) = false := by simp; omega
                have HFIN : Hid (KPost w l (.returned (.tuple #[.slice (some ⟨g7, 0, none⟩) j c7, .bool false])) wr) := hide (kpost_no HTR.out (hB.trans (hBx.mono hB.size)))
                go_wp2
                exact bodyPost_ret (v := .tuple #[.slice (some ⟨g7, 0, none⟩) j c7, .bool false]) (by simp [results, Try.results52, go_sem]) rfl HFIN.out
        · have HNX := hide (run_next l i st a HA.out k q HK.out hq HR.out)
          have hms : ¬ ((i : Int) = (m : Int)) := by omega
          obtain ⟨s0, hs0⟩ : ∃ s0, (atomsL (st.take q)).length = s0 := ⟨_, rfl⟩
          have HS0 := hide hs0
          have hown' : wr.ownsRow (w.heap.size + 1) 3 1 (.slice (some ⟨g4, 0, none⟩) q c4) q (((starts st).map vint).take q) := by have := row_take ho4 q (by omega); rwa [Nat.mul_one] at this
          have HO := hide hown'
          clear hown' ho4
          have fin : ∀ v5 w5, w5.ownsRow (w.heap.size + 1) 3 1 v5 (q + 1) (((starts st).map vint).take q ++ [.int .i64 (s0 : Int)]) → (wr.alloc (.cells #[.int .i64 (s0 : Int)] 3)).grownBy w5 (some g4) → ¬ v5 = .slice none 0 0 → (v5.ownBlock = (Value.slice (some ⟨g4, 0, none⟩) q c4).ownBlock ∨ v5.ownBlock = some (wr.heap.size + 1)) →
              ∃ (i2 : Nat) (st2 : List T) (g4' c4' : Nat), i2 ≤ m ∧ (Value.int .i64 ((i : Int) + 1)) = .int .i64 i2 ∧ v5 = .slice (some ⟨g4', 0, none⟩) st2.length c4' ∧ w5.ownsRow (w.heap.size + 1) 3 1 (.slice (some ⟨g4', 0, none⟩) st2.length c4') st2.length ((starts st2).map vint) ∧ st2.length ≤ i2 ∧
      Below w.heap.size w w5 ∧ w.heap.size < w5.heap.size ∧ w5.cell? ⟨w.heap.size, 0, none⟩ = some (.slice (some ⟨g, o, none⟩) (m + 1) c) ∧ run (l.take i2) [] = some st2 := by
            intro v5 w5 h1 h2 h3 h4
            obtain ⟨g5, c5, rfl, hg5⟩ := lies_form h1 h3 (by simpa [Value.ownBlock] using h4)
            have hz := h2.size
            rw [World.size_alloc] at hz
            refine ⟨i + 1, st.take q ++ [.mk a.kind a.n a.text (st.drop q)], g5, c5, by omega, by go_num, by simp; omega, ?_, by simp; omega, ?_, by omega, ?_, HNX.out⟩
            · rw [starts_take st q _ (by omega), HS0.out, List.map_append, show (st.take q ++ [T.mk a.kind a.n a.text (st.drop q)]).length = q + 1 from by simp; omega, List.map_take]
              exact h1
            · exact (hB.alloc hB.size _).grown h2 (by simp; omega) (fun x e => by cases e; omega)
            · rw [← hc0]
              exact World.cell?_of_block (a := ⟨w.heap.size, 0, none⟩) ((h2.block w.heap.size (by simp; omega) (by simp; omega)).trans (((Below.refl wr.heap.size wr).alloc (Nat.le_refl _) _).block w.heap.size hlt0))
          have HF := hide fin
          clear fin
          by_cases hk0 : k = 0
          · have hk0' : ¬ ((0 : Int) < (k : Int)) := by omega
            have hsi : s0 = i := by rw [← HS0.out, List.take_of_length_le (by omega)]; exact HAI.out
            go_wp2_with (at_builtin; refine wpList_append_own_at _ rfl _ _ 134 rfl (w.heap.size + 1) 3 iI (.int .i64 0) 1 8 Try.underlying134 hI hIz hIs hIb rfl (by decide) (.slice (some ⟨g4, 0, none⟩) q c4) q (((starts st).map vint).take q) rfl (HO.out.alloc _) ⟨wr.heap.size, 0, none⟩ 1 1 [.int .i64 (i : Int)] rfl rfl (cell_one _ _ _) (by simp [Value.oneCell']) (by unfold maxLen; omega) (by omega) (by simp; omega) ?_)
            intro v5 w5 h1 h2 h3 h4
            have HX : Hid _ := hide (HF.out v5 w5 (by rw [hsi]; exact h1) (by rw [hsi]; exact h2) h3 h4)
            clear h1 h2 h3 h4
            go_wp2
            go_roundw
            case rel => exact HX.out
            case measure => simp [intOf]; omega
          · have hk0' : (0 : Int) < (k : Int) := by omega
            have hsq := HST.out q (by omega)
            rw [HS0.out] at hsq
            go_wp2_with (at_builtin; refine wpList_append_own_at _ rfl _ _ 134 rfl (w.heap.size + 1) 3 iI (.int .i64 0) 1 8 Try.underlying134 hI hIz hIs hIb rfl (by decide) (.slice (some ⟨g4, 0, none⟩) q c4) q (((starts st).map vint).take q) rfl (HO.out.alloc _) ⟨wr.heap.size, 0, none⟩ 1 1 [.int .i64 (s0 : Int)] rfl rfl (cell_one _ _ _) (by simp [Value.oneCell']) (by unfold maxLen; omega) (by omega) (by simp; omega) ?_)
            intro v5 w5 h1 h2 h3 h4
            have HX : Hid _ := hide (HF.out v5 w5 h1 h2 h3 h4)
            clear h1 h2 h3 h4
            go_wp2
            go_roundw
            case rel => exact HX.out
            case measure => simp [intOf]; omega
end Go.Proofs.Ytfpdoafpimaoaaa.Vl
