/- Walks: the kids of each node, on the specification's side. -/
import Derived.Test.YtmklgiononbmmaaDoorVn
namespace Go.Proofs.YtmklgiononbmmaaDoor
open Go.RowKit

/-- The kids of each node; what stays open at the end, none where the list is no tree. -/
def Tr.krun : List Tr.Nd → Nat → List Nat → List (List Nat) × Option (List Nat)
  | [], _, op => ([], some op)
  | x :: r, i, op => if x.kids < 0 ∨ (op.length : Int) < x.kids then ([], none) else
      (op.drop (op.length - x.kids.toNat) :: (Tr.krun r (i + 1) (op.take (op.length - x.kids.toNat) ++ [i])).1, (Tr.krun r (i + 1) (op.take (op.length - x.kids.toNat) ++ [i])).2)
def Tr.kids (ns : List Tr.Nd) : List (List Nat) := (Tr.krun ns 0 []).1
def Tr.kidsGood (ns : List Tr.Nd) : Bool := match (Tr.krun ns 0 []).2 with
  | none => false
  | some op => op.length == 1
theorem Tr.krun_bad (ns : List Tr.Nd) (i : Nat) (h : i < ns.length) (op : List Nat) (hk : ns[i].kids < 0 ∨ (op.length : Int) < ns[i].kids) : Tr.krun (ns.drop i) i op = ([], none) := by
  rw [List.drop_eq_getElem_cons h, Tr.krun, if_pos hk]
theorem Tr.krun_good (ns : List Tr.Nd) (i : Nat) (h : i < ns.length) (op : List Nat) (k m : Nat) (hk : ns[i].kids = k) (hm : op.length = m + k) :
    Tr.krun (ns.drop i) i op = (op.drop m :: (Tr.krun (ns.drop (i + 1)) (i + 1) (op.take m ++ [i])).1, (Tr.krun (ns.drop (i + 1)) (i + 1) (op.take m ++ [i])).2) := by
  rw [List.drop_eq_getElem_cons h, Tr.krun, if_neg (by omega), show op.length - ns[i].kids.toNat = m from by omega]

def vint (x : Nat) : Value := .int .i64 x
/-- A part of a row is a row. -/
theorem row_take {w : World} {base : Nat} {e : TypeId} {g n cap : Nat} {xs : List Value} (h : w.ownsRow base e 1 (.slice (some ⟨g, 0, none⟩) n cap) n xs) (m : Nat) (hm : m ≤ n) : w.ownsRow base e 1 (.slice (some ⟨g, 0, none⟩) m cap) m (xs.take m) := by
  obtain ⟨h1, h2⟩ := h
  refine ⟨by simp; omega, .inr ?_⟩
  rcases h2 with ⟨h2, _⟩ | ⟨g', cap', cur, hv, hb, hg, hn, hc, hs, ht⟩
  · cases h2
  · cases hv
    refine ⟨g, cap, cur, rfl, hb, hg, by omega, hc, hs, ?_⟩
    rw [← ht, List.take_take]
    congr 1
    omega
theorem row_mono {w : World} {base base' : Nat} {e : TypeId} {size : Nat} {v : Value} {n : Nat} {xs : List Value} (h : w.ownsRow base e size v n xs) (hb : base' ≤ base) : w.ownsRow base' e size v n xs := by
  refine ⟨h.1, ?_⟩
  rcases h.2 with h | ⟨g, cap, cur, h1, h2, h3⟩
  · exact .inl h
  · exact .inr ⟨g, cap, cur, h1, Nat.le_trans hb h2, h3⟩
theorem vint_one (l : List Nat) : ∀ u ∈ l.map vint, u.oneCell' = true := by
  intro u hu
  obtain ⟨x, _, rfl⟩ := List.mem_map.1 hu
  rfl
theorem row_room {w : World} {base : Nat} {e : TypeId} {size g n cap : Nat} {xs : List Value} (h : w.ownsRow base e size (.slice (some ⟨g, 0, none⟩) n cap) n xs) : n ≤ cap ∧ base ≤ g ∧ g < w.heap.size := by
  have hl := h.lt g rfl
  rcases h.2 with ⟨h2, _⟩ | ⟨g', cap', cur, hv, hb, hg, hn, hc, hs, ht⟩
  · cases h2
  · cases hv; exact ⟨hn, hl.1, hl.2⟩
theorem add_plain (g o j : Nat) : ((⟨g, o, none⟩ : Addr).add j) = ⟨g, o + j, none⟩ := by unfold Addr.add; split <;> simp_all
theorem news_drop {w : World} {base : Nat} {e : TypeId} {g cap : Nat} {op : List Nat} {m k o : Nat} (hm : op.length = m + k) (h : w.ownsRow base e 1 (.slice (some ⟨g, 0, none⟩) op.length cap) op.length (op.map vint)) (ho : 0 < k → o = m) :
    ∀ j u, ((op.drop m).map vint)[j]? = some u → w.cell? ((⟨g, o, none⟩ : Addr).add j) = some u := by
  intro j u hu
  have hj : j < k := by have := (List.getElem?_eq_some_iff.1 hu).1; simp at this; omega
  obtain rfl := ho (by omega)
  rw [add_plain, h.cellAt (o + j) (by omega), ← hu]
  simp
theorem cell_one (w : World) (u : Value) (t : TypeId) : ∀ (j : Nat) (x : Value), ([u] : List Value)[j]? = some x → (w.alloc (.cells #[u] t)).cell? ((⟨w.heap.size, 0, none⟩ : Addr).add j) = some x := by
  intro j x h
  rw [add_plain, Nat.zero_add, World.cell?, heap_alloc_new']
  simpa using h
theorem grown_block {w w2 : World} {o : Obj} {row : Option Nat} (h : (w.alloc o).grownBy w2 row) (g : Nat) (hg : g < w.heap.size) (hne : some g ≠ row) : w2.heap[g]? = w.heap[g]? := by
  have := (Below.refl w.heap.size w).alloc (Nat.le_refl _) o
  exact (h.block g (by simp; omega) hne).trans (this.block g hg)
theorem IntsAt.heap {w w' : World} {g o : Nat} {l : List Nat} (h : IntsAt w g o l) (hb : w'.heap[g]? = w.heap[g]?) : IntsAt w' g o l := by
  have h1 := h.1
  refine ⟨?_, fun j hj => ?_⟩
  · rcases Nat.lt_or_ge g w'.heap.size with q | q
    · exact q
    · rw [Array.getElem?_eq_none q, Array.getElem?_eq_getElem h1] at hb; cases hb
  · have := h.2 j hj
    rw [World.cell?] at this ⊢
    simpa [hb] using this
theorem ints_of_row {w : World} {base : Nat} {e : TypeId} {g cap : Nat} {l : List Nat} (h : w.ownsRow base e 1 (.slice (some ⟨g, 0, none⟩) l.length cap) l.length (l.map vint)) : IntsAt w g 0 l := by
  refine ⟨(row_room h).2.2, fun j hj => ?_⟩
  rw [Nat.zero_add, h.cellAt j (by omega)]
  simp [hj, vint]
/-- What an append onto a row leaves: where the new row lies. -/
theorem lies_form {w2 : World} {b : Nat} {e : TypeId} {v2 : Value} {n g H : Nat} {xs : List Value} (hown : w2.ownsRow b e 1 v2 n xs) (hnil : ¬ v2 = .slice none 0 0)
    (hat : v2.ownBlock = some g ∨ v2.ownBlock = some H) : ∃ g2 c2, v2 = .slice (some ⟨g2, 0, none⟩) n c2 ∧ (g2 = g ∨ g2 = H) := by
  rcases hown.2 with ⟨h, _⟩ | ⟨g2, c2, _, h, _⟩
  · exact absurd h hnil
  · subst h
    refine ⟨g2, c2, rfl, ?_⟩
    simpa [Value.ownBlock] using hat
/-- The rows of kids: each in a block of its own. -/
def Rows (w : World) (base g4 g5 : Nat) (vs : List Value) (ks : List (List Nat)) : Prop :=
  vs.length = ks.length ∧ ∀ j (h : j < ks.length), ∃ g c, vs[j]? = some (.slice (some ⟨g, 0, none⟩) (ks[j]).length c) ∧ base ≤ g ∧ g ≠ g4 ∧ g ≠ g5 ∧ IntsAt w g 0 ks[j] ∧ (ks[j]).length ≤ c

theorem Rows.weak {w : World} {base g4 g5 : Nat} {vs : List Value} {ks : List (List Nat)} (h : Rows w (base + 1) g4 g5 vs ks) : Rows w base g4 g4 vs ks := by
  refine ⟨h.1, fun j hj => ?_⟩
  obtain ⟨g, c, a, b, d, _, f, e⟩ := h.2 j hj
  exact ⟨g, c, a, by omega, d, d, f, e⟩
theorem rows_step {wr w1 w2 w3 : World} {base g4 g5 g4' g5' gn cn k : Nat} {vs : List Value} {ks : List (List Nat)} {x : List Nat} (h : Rows wr base g4 g5 vs ks) (hx : x.length = k)
    (h1 : ∀ q, q < wr.heap.size → w1.heap[q]? = wr.heap[q]?) (h2 : ∀ q, q < w1.heap.size → q ≠ g4 → w2.heap[q]? = w1.heap[q]?) (h3 : ∀ q, q < w2.heap.size → q ≠ g5 → w3.heap[q]? = w2.heap[q]?)
    (hs1 : wr.heap.size ≤ w1.heap.size) (hs2 : w1.heap.size ≤ w2.heap.size) (h4 : g4' = g4 ∨ w1.heap.size ≤ g4') (h5 : g5' = g5 ∨ w2.heap.size ≤ g5')
    (hn : wr.heap.size ≤ gn) (hg4 : g4 < wr.heap.size) (hg5 : g5 < wr.heap.size) (hb : base ≤ gn) (hi : IntsAt w1 gn 0 x) (hcn : k ≤ cn) :
    Rows w3 base g4' g5' (vs ++ [.slice (some ⟨gn, 0, none⟩) k cn]) (ks ++ [x]) := by
  have hi1 := hi.1
  refine ⟨by simp [h.1], fun j hj => ?_⟩
  by_cases e : j < ks.length
  · obtain ⟨g, c, a, b, d, f, q, r⟩ := h.2 j e
    have q1 := q.1
    rw [List.getElem_append_left e, List.getElem?_append_left (by rw [h.1]; exact e)]
    exact ⟨g, c, a, b, by omega, by omega, ((q.heap (h1 g q1)).heap (h2 g (by omega) d)).heap (h3 g (by omega) f), r⟩
  · have e2 : j = ks.length := by simp at hj; omega
    subst e2
    refine ⟨gn, cn, ?_, hb, by omega, by omega, ?_, ?_⟩
    · have e3 : (ks ++ [x])[ks.length] = x := by simp
      rw [e3, hx, List.getElem?_append_right (by rw [h.1]; exact Nat.le_refl _), h.1, Nat.sub_self]
      rfl
    · have e3 : (ks ++ [x])[ks.length] = x := by simp
      rw [e3]
      exact (hi.heap (h2 gn hi1 (by omega))).heap (h3 gn (by omega) (by omega))
    · have e3 : (ks ++ [x])[ks.length] = x := by simp
      rw [e3, hx]; exact hcn
theorem kids_end {ns : List Tr.Nd} {i : Nat} {ks : List (List Nat)} {op : List Nat} (he : Tr.krun ns 0 [] = (ks ++ (Tr.krun (ns.drop i) i op).1, (Tr.krun (ns.drop i) i op).2)) {r : Option (List Nat)} (h : Tr.krun (ns.drop i) i op = ([], r)) : Tr.kids ns = ks ∧ (Tr.krun ns 0 []).2 = r := by
  rw [h] at he; simp [Tr.kids, he]

theorem Tryd.infoInt : (Tryd.prog.info? 3).map (fun i => (i.zero, i.size, i.bytes)) = some (some (.int .i64 0), 1, 8) := by kernel_rfl
theorem Tryd.infoInts : (Tryd.prog.info? 36).map (fun i => (i.zero, i.size, i.bytes)) = some (some (.slice none 0 0), 1, 24) := by kernel_rfl

set_option maxRecDepth 100000 in
set_option maxHeartbeats 1000000 in
theorem kids_any (ns : List Tr.Nd) (tg tc : Nat) (w : World) (hn : ns.length ≤ 1048576) (ht : NodesAt w tg ns) :
    Calls Tryd.prog 46 #[.agg #[.slice (some ⟨tg, 0, none⟩) ns.length tc]] w fun e w' => ∃ g4 c4 vs, e = .returned (.tuple #[.slice (some ⟨g4, 0, none⟩) (Tr.kids ns).length c4, .bool (Tr.kidsGood ns)]) ∧
      w'.ownsRow w.heap.size 36 1 (.slice (some ⟨g4, 0, none⟩) (Tr.kids ns).length c4) (Tr.kids ns).length vs ∧ Rows w' w.heap.size g4 g4 vs (Tr.kids ns) ∧ Below w.heap.size w w' := by
  obtain ⟨iI, hI, hIz, hIs, hIb⟩ := info_parts Tryd.infoInt
  obtain ⟨iR, hR, hRz, hRs, hRb⟩ := info_parts Tryd.infoInts
  have HT := hide ht
  clear ht
  go_enter Tryd.func46, Tryd.ntmps46
  go_wp2
  go_loopw [4, 5, 6] (fun v4 v5 t wr => ∃ (i : Nat) (ks : List (List Nat)) (op : List Nat) (g4 c4 g5 c5 : Nat) (vs : List Value), i ≤ ns.length ∧ t = .int .i64 i ∧ v4 = .slice (some ⟨g4, 0, none⟩) i c4 ∧ v5 = .slice (some ⟨g5, 0, none⟩) op.length c5 ∧
      wr.ownsRow (w.heap.size + 1) 36 1 (.slice (some ⟨g4, 0, none⟩) i c4) i vs ∧ wr.ownsRow (w.heap.size + 1) 3 1 (.slice (some ⟨g5, 0, none⟩) op.length c5) op.length (op.map vint) ∧ g4 ≠ g5 ∧ ks.length = i ∧ op.length ≤ i ∧
      Rows wr (w.heap.size + 1) g4 g5 vs ks ∧ Below w.heap.size w wr ∧ w.heap.size < wr.heap.size ∧ wr.cell? ⟨w.heap.size, 0, none⟩ = some (.slice (some ⟨tg, 0, none⟩) ns.length tc) ∧
      Tr.krun ns 0 [] = (ks ++ (Tr.krun (ns.drop i) i op).1, (Tr.krun (ns.drop i) i op).2)) (fun _ _ t _ => ns.length - (intOf t).toNat)
  case atStart =>
    refine ⟨0, [], [], w.heap.size + 1, 0, w.heap.size + 2, 0, [], Nat.zero_le _, rfl, rfl, rfl, ?_, ?_, by omega, rfl, Nat.le_refl _, ⟨rfl, fun j h => absurd h (Nat.not_lt_zero _)⟩, ?_, by rw [World.size_alloc, World.size_alloc, World.size_alloc]; omega, ?_, rfl⟩
    · have := World.ownsRow_lit (base := w.heap.size + 1) (e := 36) (size := 1) (w.alloc (.cells #[.slice (some ⟨tg, 0, none⟩) ns.length tc] 31)) #[] 0 (by simp) (Nat.zero_le _) rfl
      rw [World.size_alloc] at this
      exact this.alloc _
    · have := World.ownsRow_lit (base := w.heap.size + 1) (e := 3) (size := 1) ((w.alloc (.cells #[.slice (some ⟨tg, 0, none⟩) ns.length tc] 31)).alloc (.cells #[] 36)) #[] 0 (by simp) (Nat.zero_le _) rfl
      rw [World.size_alloc, World.size_alloc] at this
      exact this
    · exact (((Below.refl _ _).alloc (Nat.le_refl _) _).alloc (by simp) _).alloc (by simp; omega) _
    · have h1 : Below (w.heap.size + 1) (w.alloc (.cells #[.slice (some ⟨tg, 0, none⟩) ns.length tc] 31)) (((w.alloc (.cells #[.slice (some ⟨tg, 0, none⟩) ns.length tc] 31)).alloc (.cells #[] 36)).alloc (.cells #[] 3)) := ((Below.refl _ _).alloc (by simp) _).alloc (by simp) _
      exact (h1.cell (p := ⟨w.heap.size, 0, none⟩) (Nat.lt_succ_self _)).trans (by simp)
  case round =>
    obtain ⟨i, ks, op, g4, c4, g5, c5, vs, hin, rfl, rfl, rfl, ho4, ho5, hne, hkl, hol, hrows, hB, hlt0, hc0, he⟩ := hrel
    have HE := hide he
    have HR := hide hrows
    clear he hrows
    by_cases hlt : i < ns.length
    · obtain ⟨_, _, _, _, hK⟩ := HT.out.2 i hlt
      have a0 := (hB.cell (p := ⟨tg, i * 5 + 4, none⟩) HT.out.1).trans hK
      have hgood := hide (Tr.krun_good ns i hlt op)
      have hbad := hide (Tr.krun_bad ns i hlt op)
      generalize ns[i].kids = kd at *
      clear hK
      by_cases hneg : kd < 0
      · obtain ⟨e1, e2⟩ := kids_end HE.out (hbad.out (.inl hneg))
        have E3 : Hid (Tr.kids ns = ks ∧ Tr.kidsGood ns = false) := hide ⟨e1, by unfold Tr.kidsGood; rw [e2]⟩
        clear e1 e2
        go_wp2
        exact bodyPost_ret (v := .tuple #[.slice (some ⟨g4, 0, none⟩) i c4, .bool false]) (by simp [results, Tryd.results46, go_sem]) rfl (by first | exact ⟨g4, c4, vs, by rw [E3.out.1, E3.out.2, hkl], by rw [E3.out.1, hkl]; exact row_mono ho4 (by omega), by rw [E3.out.1]; exact HR.out.weak, hB⟩ | exact ⟨g4, c4, by rw [E3.out.1, E3.out.2, hkl], vs, by rw [E3.out.1, hkl]; exact row_mono ho4 (by omega), by rw [E3.out.1]; exact HR.out.weak, hB⟩)
      · by_cases hbig : (op.length : Int) < kd
        · obtain ⟨e1, e2⟩ := kids_end HE.out (hbad.out (.inr hbig))
          have E3 : Hid (Tr.kids ns = ks ∧ Tr.kidsGood ns = false) := hide ⟨e1, by unfold Tr.kidsGood; rw [e2]⟩
          clear e1 e2
          go_wp2
          exact bodyPost_ret (v := .tuple #[.slice (some ⟨g4, 0, none⟩) i c4, .bool false]) (by simp [results, Tryd.results46, go_sem]) rfl (by first | exact ⟨g4, c4, vs, by rw [E3.out.1, E3.out.2, hkl], by rw [E3.out.1, hkl]; exact row_mono ho4 (by omega), by rw [E3.out.1]; exact HR.out.weak, hB⟩ | exact ⟨g4, c4, by rw [E3.out.1, E3.out.2, hkl], vs, by rw [E3.out.1, hkl]; exact row_mono ho4 (by omega), by rw [E3.out.1]; exact HR.out.weak, hB⟩)
        · obtain ⟨k, rfl⟩ : ∃ k : Nat, kd = k := ⟨kd.toNat, by omega⟩
          obtain ⟨m, hm⟩ : ∃ m, op.length = m + k := ⟨op.length - k, by omega⟩
          have hq : ¬ ((m : Int) + (k : Int) < (k : Int)) := by omega
          have hq2 : decide ((m : Int) + (k : Int) < (k : Int)) = false := by simp; omega
          obtain ⟨hcap, hb5, hg5⟩ := row_room ho5
          obtain ⟨_, hb4, hg4⟩ := row_room ho4
          obtain ⟨o5, hif, hoff⟩ : ∃ o5, (if c5 = m then some (⟨g5, 0, none⟩ : Addr) else some ⟨g5, m, none⟩) = some ⟨g5, o5, none⟩ ∧ (0 < k → o5 = m) := by
            by_cases h : c5 = m
            · exact ⟨0, by rw [if_pos h], fun _ => by omega⟩
            · exact ⟨m, by rw [if_neg h], fun _ => rfl⟩
          have HIF := hide hif
          have HOFF := hide hoff
          clear hif hoff
          go_wp2_with (at_builtin; refine wpList_append_own_at _ rfl _ _ 36 rfl (w.heap.size + 1) 3 iI (.int .i64 0) 1 8 Tryd.underlying36 hI hIz hIs hIb rfl (by decide) (.slice (some ⟨wr.heap.size, 0, none⟩) 0 0) 0 [] rfl (World.ownsRow_lit (base := w.heap.size + 1) wr #[] 0 hlt0 (Nat.zero_le _) rfl) ⟨g5, o5, none⟩ k (c5 - m) ((op.drop m).map vint) (congrArg (fun a => Value.slice a k (c5 - m)) HIF.out) (by simp; omega) (news_drop hm (ho5.alloc _) HOFF.out) (vint_one _) (by unfold maxLen; omega) (by omega) (by simp; omega) ?_)
          all_goals
            intro v1 w1 hown1 hgrow1 hnil1 hat1
            obtain ⟨gn, cn, rfl, hgn⟩ := lies_form hown1 hnil1 (by simpa [Value.ownBlock] using hat1)
            have hs1 : wr.heap.size < w1.heap.size := by have := hgrow1.size; simp at this; omega
            have hgn1 := (row_room hown1).2.2
            have hgw : wr.heap.size ≤ gn := by omega
            have hB1 : Below w.heap.size w w1 := (hB.alloc (by omega) _).grown hgrow1 (by simp; omega) (fun q e => by simp [Value.ownBlock] at e; omega)
            have hc1 : w1.cell? ⟨w.heap.size, 0, none⟩ = some (.slice (some ⟨tg, 0, none⟩) ns.length tc) := (World.cell?_of_block (grown_block hgrow1 w.heap.size hlt0 (by simp [Value.ownBlock]; omega))).trans hc0
            have ho4' := (ho4.alloc _).kept hgrow1 (.inr (by simp [Value.ownBlock]; omega))
            have ho5' := (ho5.alloc _).kept hgrow1 (.inr (by simp [Value.ownBlock]; omega))
            have hG1 : ∀ q, q < wr.heap.size → w1.heap[q]? = wr.heap[q]? := fun q hq => grown_block hgrow1 q hq (by simp [Value.ownBlock]; omega)
            have HG1 := hide hG1
            have hownN := hide hown1
            clear hgrow1 hnil1 hat1 hown1 hG1 ho4 ho5 hc0
            go_wp2_with (at_builtin; refine wpList_append_own_at _ rfl _ _ 48 rfl (w.heap.size + 1) 36 iR (.slice none 0 0) 1 24 Tryd.underlying48 hR hRz hRs hRb rfl (by decide) (.slice (some ⟨g4, 0, none⟩) i c4) i vs rfl (ho4'.alloc _) ⟨w1.heap.size, 0, none⟩ 1 1 [.slice (some ⟨gn, 0, none⟩) k cn] rfl rfl (cell_one _ _ _) (by simp [Value.oneCell']) (by unfold maxLen; omega) (by omega) (by simp; omega) ?_)
            intro v2 w2 hown2 hgrow2 hnil2 hat2
            obtain ⟨g4', c4', rfl, hg4'⟩ := lies_form hown2 hnil2 (by simpa [Value.ownBlock] using hat2)
            have hs2 : w1.heap.size < w2.heap.size := by have := hgrow2.size; simp at this; omega
            have hg42 := (row_room hown2).2.2
            have hB2 : Below w.heap.size w w2 := (hB1.alloc (by omega) _).grown hgrow2 (by simp; omega) (fun q e => by simp [Value.ownBlock] at e; omega)
            have hc2 : w2.cell? ⟨w.heap.size, 0, none⟩ = some (.slice (some ⟨tg, 0, none⟩) ns.length tc) := (World.cell?_of_block (grown_block hgrow2 w.heap.size (by omega) (by simp [Value.ownBlock]; omega))).trans hc1
            have ho5'' := (ho5'.alloc _).kept hgrow2 (.inr (by simp [Value.ownBlock]; omega))
            have hG2 : ∀ q, q < w1.heap.size → q ≠ g4 → w2.heap[q]? = w1.heap[q]? := fun q hq hne => grown_block hgrow2 q hq (by simp [Value.ownBlock]; omega)
            have HG2 := hide hG2
            have ho4'' := hide hown2
            clear hgrow2 hnil2 hat2 hown2 hG2 ho4' ho5' hc1 hB1
            have ho5m := row_take ho5'' m (by omega)
            have ho5mm : c5 = m → w2.ownsRow (w.heap.size + 1) 3 1 (.slice (some ⟨g5, 0, none⟩) m m) m ((op.map vint).take m) := fun h => by have q := ho5m; rwa [h] at q
            have HMM := hide ho5mm
            clear ho5mm
            go_wp2_with (at_builtin; first | (refine wpList_append_own_at _ rfl _ _ 36 rfl (w.heap.size + 1) 3 iI (.int .i64 0) 1 8 Tryd.underlying36 hI hIz hIs hIb rfl (by decide) (.slice (some ⟨g5, 0, none⟩) m _) m _ rfl (ho5m.alloc _) ⟨w2.heap.size, 0, none⟩ 1 1 [.int .i64 i] rfl rfl (cell_one _ _ _) (by simp [Value.oneCell']) (by unfold maxLen; omega) (by omega) (by simp; omega) ?_) | (refine wpList_append_own_at _ rfl _ _ 36 rfl (w.heap.size + 1) 3 iI (.int .i64 0) 1 8 Tryd.underlying36 hI hIz hIs hIb rfl (by decide) (.slice (some ⟨g5, 0, none⟩) m _) m _ rfl ((HMM.out (by assumption)).alloc _) ⟨w2.heap.size, 0, none⟩ 1 1 [.int .i64 i] rfl rfl (cell_one _ _ _) (by simp [Value.oneCell']) (by unfold maxLen; omega) (by omega) (by simp; omega) ?_))
            intro v3 w3 hown3 hgrow3 hnil3 hat3
            obtain ⟨g5', c5', rfl, hg5'⟩ := lies_form hown3 hnil3 (by simpa [Value.ownBlock] using hat3)
            have hs3 : w2.heap.size < w3.heap.size := by have := hgrow3.size; simp at this; omega
            have hB3 : Below w.heap.size w w3 := (hB2.alloc (by omega) _).grown hgrow3 (by simp; omega) (fun q e => by simp [Value.ownBlock] at e; omega)
            have hc3 : w3.cell? ⟨w.heap.size, 0, none⟩ = some (.slice (some ⟨tg, 0, none⟩) ns.length tc) := (World.cell?_of_block (grown_block hgrow3 w.heap.size (by omega) (by simp [Value.ownBlock]; omega))).trans hc2
            have ho4f := (ho4''.out.alloc _).kept hgrow3 (.inr (by simp [Value.ownBlock]; omega))
            have hG3 : ∀ q, q < w2.heap.size → q ≠ g5 → w3.heap[q]? = w2.heap[q]? := fun q hq hne => grown_block hgrow3 q hq (by simp [Value.ownBlock]; omega)
            have hlm : (op.drop m).length = k := by simp; omega
            have hints : IntsAt w1 gn 0 (op.drop m) := by
              have q := hownN.out
              rw [← List.map_drop, ← hlm] at q
              exact ints_of_row q
            have hrows' := rows_step (g4' := g4') (g5' := g5') (cn := cn) HR.out hlm HG1.out HG2.out hG3 (by omega) (by omega) (by omega) (by omega) hgw hg4 hg5 (by omega) hints (row_room hownN.out).1
            have HRR := hide hrows'
            clear hgrow3 hnil3 hat3 hG3 hints hrows' ho5'' hc2 hB2 ho5m
            go_wp2
            go_roundw
            case rel =>
              refine ⟨i + 1, ks ++ [op.drop m], op.take m ++ [i], g4', c4', g5', c5', _, by omega, by go_num, rfl, ?_, ho4f, ?_, by omega, by simp; omega, by simp; omega, HRR.out, hB3, by omega, hc3, ?_⟩
              · rw [List.length_append, List.length_take, Nat.min_eq_left (by omega)]; rfl
              · have hl2 : (op.take m ++ [i]).length = m + 1 := by rw [List.length_append, List.length_take, Nat.min_eq_left (by omega)]; rfl
                have hmap : (op.take m ++ [i]).map vint = (op.map vint).take m ++ [.int .i64 i] := by rw [List.map_append, List.map_take]; rfl
                rw [hl2, hmap]; exact hown3
              · rw [HE.out, hgood.out k m rfl hm]; simp
            case measure => simp [intOf]; omega
    · obtain ⟨e1, e2⟩ := kids_end HE.out (show Tr.krun (ns.drop i) i op = ([], some op) by rw [List.drop_of_length_le (by omega)]; rfl)
      have e3 : Tr.kidsGood ns = (op.length == 1) := by unfold Tr.kidsGood; rw [e2]
      have E1 := hide e1
      have E3 := hide e3
      clear e1 e2 e3
      by_cases h1 : op.length = 1
      · go_wp2
        exact bodyPost_ret (v := .tuple #[.slice (some ⟨g4, 0, none⟩) i c4, .bool true]) (by simp [results, Tryd.results46, go_sem]) rfl ⟨g4, c4, vs, by rw [E1.out, E3.out, hkl, h1]; rfl, by rw [E1.out, hkl]; exact row_mono ho4 (by omega), by rw [E1.out]; exact HR.out.weak, hB⟩
      · have h2 : ((op.length : Int) == 1) = false := by simp; omega
        go_wp2
        exact bodyPost_ret (v := .tuple #[.slice (some ⟨g4, 0, none⟩) i c4, .bool false]) (by simp [results, Tryd.results46, go_sem]) rfl ⟨g4, c4, vs, by rw [E1.out, E3.out, hkl, beq_false_of_ne h1], by rw [E1.out, hkl]; exact row_mono ho4 (by omega), by rw [E1.out]; exact HR.out.weak, hB⟩
end Go.Proofs.YtmklgiononbmmaaDoor
