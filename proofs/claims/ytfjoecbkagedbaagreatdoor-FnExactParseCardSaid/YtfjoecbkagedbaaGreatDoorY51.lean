/- La2. -/
import Derived.Test.YtfjoecbkagedbaaGreatDoorY49
import Derived.Test.YtfjoecbkagedbaaGreatDoorY50
namespace Go.Proofs.YtfjoecbkagedbaaGreatDoor
open Go.RowKit
set_option maxRecDepth 100000 in
theorem eqFault_same (a b : Int) (w : World) : Calls Tryz.prog 7 #[.agg #[.int .i64 a, .int .i64 b], .agg #[.int .i64 a, .int .i64 b]] w fun e w' => e = .returned (.bool true) ∧ Below w.heap.size w w' := by
  have hb : Below w.heap.size w ((w.alloc (.cells #[.int .i64 a, .int .i64 b] 26)).alloc (.cells #[.int .i64 a, .int .i64 b] 26)) := ((Below.refl _ _).alloc (Nat.le_refl _) _).alloc (by simp) _
  go_enter Tryz.func7, Tryz.ntmps7
  go_wp2
  go_ret
  exact ⟨by simp, hb⟩
/-- A tree and a fault in boxes; the tree's row lies from lo on, ahead of the boxes. -/
structure LP (lo q : Nat) (v : Value) (n : Nat) (xs : List Value) (a b : Nat) (W : World) : Prop where
  lw : lo ≤ q
  z : q + 1 < W.heap.size
  row : RowT W lo q v n xs
  c0 : W.cell? ⟨q, 0, none⟩ = some v
  c1 : W.cell? ⟨q + 1, 0, none⟩ = some (.int .i64 a)
  c2 : W.cell? ⟨q + 1, 1, none⟩ = some (.int .i64 b)
theorem LP.below {lo q k n a b : Nat} {v : Value} {xs : List Value} {W W' : World} (h : LP lo q v n xs a b W) (hb : Below k W W') (hk : q + 1 < k) : LP lo q v n xs a b W' :=
  ⟨h.lw, Nat.lt_of_lt_of_le h.z hb.size, h.row.below hb (by omega), (hb.cell (p := ⟨q, 0, none⟩) (show q < k by omega)).trans h.c0, (hb.cell (p := ⟨q + 1, 0, none⟩) hk).trans h.c1, (hb.cell (p := ⟨q + 1, 1, none⟩) hk).trans h.c2⟩
/-- What Parse has handed back is laid into boxes. -/
theorem LP.made {w W : World} {v : Value} {l : List Tr.Nd} {a b : Nat} (h : W.ownsRow w.heap.size 41 5 v l.length (Tr.cellsOf l)) (hs : w.heap.size ≤ W.heap.size) : LP w.heap.size W.heap.size v l.length (Tr.cellsOf l) a b ((W.alloc (.cells #[v] 24)).alloc (fltO a b)) := by
  have hb1 := below_new W (.cells #[v] 24)
  have hb2 := below_new (W.alloc (.cells #[v] 24)) (fltO a b)
  have hz1 : (W.alloc (.cells #[v] 24)).heap.size = W.heap.size + 1 := by simp
  have h1 := heap_alloc_new (W.alloc (.cells #[v] 24)) (fltO a b)
  rw [hz1] at h1
  have h0 := (hb2.block W.heap.size (by rw [hz1]; exact Nat.lt_succ_self _)).trans (heap_alloc_new W (.cells #[v] 24))
  refine ⟨hs, by simp, ?_, by simp only [World.cell?, h0]; rfl, by simp only [World.cell?, h1]; rfl, by simp only [World.cell?, h1]; rfl⟩
  have hl := fun k e => h.lt k e
  have hr := row_belowP (row_belowP h hb1) hb2
  rcases h.2 with ⟨h2, h3⟩ | ⟨g, cap, cur, hv, _⟩
  · exact .inl ⟨h2, h3⟩
  · refine .inr ⟨g, cap, hv, (hl g (by rw [hv]; rfl)).1, (hl g (by rw [hv]; rfl)).2, row_own hr (fun _ _ => Nat.zero_le _) (fun _ _ => rfl)⟩
theorem LP.nod {lo q a b : Nat} {v : Value} {l : List Tr.Nd} {W : World} (h : LP lo q v l.length (Tr.cellsOf l) a b W) : NodV W v l := h.row.nod
theorem RowT.form {w : World} {lo hi n : Nat} {v : Value} {xs : List Value} (h : RowT w lo hi v n xs) : ∃ p c, v = .slice p n c := by
  rcases h with ⟨rfl, rfl⟩ | ⟨g, c, rfl, _⟩
  · exact ⟨none, 0, rfl⟩
  · exact ⟨_, c, rfl⟩
set_option maxRecDepth 100000 in
set_option maxHeartbeats 4000000 in
theorem lawP_any (s : ByteArray) (w : World) (hss : s.size ≤ 9223372036854775807) (hG : Glob w) (hO : Ip.Glob w) :
    Calls Tryz.prog 3 #[.string s] w fun e w' => e = .returned (.bool true) ∧ Below w.heap.size w w' := by
  have h3 : 0 < w.heap.size := by have := hG.2.2; omega
  have HG := hide hG
  have HOO := hide (show ∀ W, Below w.heap.size w W → Glob W ∧ Ip.Glob W from fun W hB => ⟨hG.below hB hG.2.2, fun o ho => ⟨(hB.cell (p := ⟨0, o * 2, none⟩) h3).trans (hO o ho).1, (hB.cell (p := ⟨0, o * 2 + 1, none⟩) h3).trans (hO o ho).2⟩⟩)
  clear hG hO
  by_cases hbig : (1048576 : Int) < (s.size : Int)
  · go_enter Tryz.func3, Tryz.ntmps3
    go_wp2
    go_ret
    exact ⟨rfl, Below.refl _ _⟩
  have hs : s.size ≤ 1048576 := by omega
  have Q1 := hide (sparse_any s w hs)
  go_enter Tryz.func3, Tryz.ntmps3
  go_wp2_with fail
  refine Q1.out.mono ?_
  rintro e w1 ⟨⟨l, a, b⟩, hr, v1, rfl, hrow, hb1⟩
  have hlen : l.length ≤ 5000 := hr.len
  have HR := hide hr
  obtain ⟨p1, c1, rfl⟩ := row_formP hrow
  have hl1 := LP.made (w := w) (W := w1) (a := a) (b := b) hrow hb1.size
  have hB1 : Below w.heap.size w ((w1.alloc (.cells #[.slice p1 l.length c1] 24)).alloc (fltO a b)) := (hb1.alloc hb1.size _).alloc (by have := hb1.size; simp; omega) _
  have hz1 : ((w1.alloc (.cells #[.slice p1 l.length c1] 24)).alloc (fltO a b)).heap.size = w1.heap.size + 2 := by simp
  have Q2 := hide (iparse_any s _ hs (HOO.out _ hB1).1 (HOO.out _ hB1).2)
  have hs1 := hb1.size
  have L1 := hide hl1
  have B1 := hide hB1
  clear hl1 hB1 hrow hb1 hr Q1
  go_wp2_with fail
  refine Q2.out.mono ?_
  rintro e w2 ⟨r2, hr2, v2, rfl, hrow, hb2⟩
  obtain rfl := HR.out.same hr2
  obtain ⟨p2, c2, rfl⟩ := row_formP hrow
  simp only at hrow
  have hs2 := hb2.size
  have hl2 := LP.made (W := w2) (a := a) (b := b) hrow hb2.size
  rw [hz1] at hl2 hs2
  have hz2 : ((w2.alloc (.cells #[.slice p2 l.length c2] 24)).alloc (fltO a b)).heap.size = w2.heap.size + 2 := by simp
  have hb2' : Below (w1.heap.size + 2) ((w1.alloc (.cells #[.slice p1 l.length c1] 24)).alloc (fltO a b)) ((w2.alloc (.cells #[.slice p2 l.length c2] 24)).alloc (fltO a b)) := by
    rw [hz1] at hb2
    exact (hb2.alloc hs2 _).alloc (by simp; omega) _
  have L1b := hide (L1.out.below hb2' (by omega))
  have B2 := hide (B1.out.trans (hb2'.mono (by omega)))
  have L2 := hide hl2
  clear hl2 hb2 hb2' hrow hr2 Q2 L1 B1
  have d0 := L2.out.c0
  have e0 := L1b.out.c0
  have Q3 := hide (eqTree_v l (.slice p2 l.length c2) (.slice p1 l.length c1) _ (by omega) L2.out.nod L1b.out.nod)
  go_wp2_with fail
  refine Q3.out.mono ?_
  rintro e w3 ⟨rfl, hb3⟩
  rw [hz2] at hb3
  have hs3 := hb3.size
  rw [hz2] at hs3
  have L1c := hide (L1b.out.below hb3 (by omega))
  have L2c := hide (L2.out.below hb3 (by omega))
  have B3 := hide (B2.out.trans (hb3.mono (by omega)))
  clear hb3 Q3 L1b L2 B2 d0 e0
  have d1 := L2c.out.c1
  have d2 := L2c.out.c2
  have e1 := L1c.out.c1
  have e2 := L1c.out.c2
  have Q4 := hide (eqFault_same a b w3)
  go_wp2_with fail
  refine Q4.out.mono ?_
  rintro e w4 ⟨rfl, hb4⟩
  have hs4 := hb4.size
  have L1d := hide (L1c.out.below hb4 (by omega))
  have L2d := hide (L2c.out.below hb4 (by omega))
  have B4 := hide (B3.out.trans (hb4.mono (by omega)))
  clear hb4 Q4 L1c L2c B3 d1 d2 e1 e2
  have d0 := L2d.out.c0
  have Q5 := hide (markT_t l.length (w1.heap.size + 2) w2.heap.size (.slice p2 l.length c2) (Tr.cellsOf l) w4 (by omega) (by omega) L2d.out.row)
  go_wp2_with fail
  refine Q5.out.mono ?_
  rintro e w5 ⟨rfl, hrow5, hkeep, hb5⟩
  have hs5 := hb5.size
  have L1e := hide (L1d.out.below hb5 (by omega))
  have L2e : Hid (LP (w1.heap.size + 2) w2.heap.size (.slice p2 l.length c2) l.length (Tr.marked5 l.length) a b w5) := hide ⟨hs2, by have := L2d.out.z; omega, hrow5, (World.cell?_of_block (a := ⟨w2.heap.size, 0, none⟩) (hkeep w2.heap.size (by have := L2d.out.z; omega) (Nat.le_refl _))).trans L2d.out.c0, (World.cell?_of_block (a := ⟨w2.heap.size + 1, 0, none⟩) (hkeep (w2.heap.size + 1) L2d.out.z (Nat.le_succ _))).trans L2d.out.c1, (World.cell?_of_block (a := ⟨w2.heap.size + 1, 1, none⟩) (hkeep (w2.heap.size + 1) L2d.out.z (Nat.le_succ _))).trans L2d.out.c2⟩
  have B5 := hide (B4.out.trans (hb5.mono (by omega)))
  have hnn : ¬ (1 + 5 * (l.length : Int)) < 0 := by omega
  clear hb5 hkeep hrow5 Q5 L1d L2d B4 d0
  have d0 := L2e.out.c0
  have Q6 := hide (heldT_t l.length (w1.heap.size + 2) w2.heap.size (.slice p2 l.length c2) w5 (by omega) L2e.out.row)
  go_wp2_with fail
  refine Q6.out.mono ?_
  rintro e w6 ⟨rfl, hb6⟩
  have hs6 := hb6.size
  have L1f := hide (L1e.out.below hb6 (by omega))
  have L2f := hide (L2e.out.below hb6 (by omega))
  have B6 := hide (B5.out.trans (hb6.mono (by omega)))
  clear hb6 Q6 L1e L2e B5 d0
  have Q7 := hide (iparse_any s w6 hs (HOO.out _ B6.out).1 (HOO.out _ B6.out).2)
  go_wp2_with fail
  refine Q7.out.mono ?_
  rintro e w7 ⟨r7, hr7, v7, rfl, hrow, hb7⟩
  obtain rfl := HR.out.same hr7
  obtain ⟨p7, c7, rfl⟩ := row_formP hrow
  simp only at hrow
  have hs7 := hb7.size
  have hl7 := LP.made (W := w7) (a := a) (b := b) hrow hb7.size
  have hz7 : ((w7.alloc (.cells #[.slice p7 l.length c7] 24)).alloc (fltO a b)).heap.size = w7.heap.size + 2 := by simp
  have hb7' : Below w6.heap.size w6 ((w7.alloc (.cells #[.slice p7 l.length c7] 24)).alloc (fltO a b)) := (hb7.alloc hs7 _).alloc (by simp; omega) _
  have L1g := hide (L1f.out.below hb7' (by omega))
  have L2g := hide (L2f.out.below hb7' (by omega))
  have B7 := hide (B6.out.trans (hb7'.mono (by omega)))
  have L7 := hide hl7
  clear hl7 hb7 hb7' hrow hr7 Q7 L1f L2f B6
  have d0 := L7.out.c0
  have e0 := L1g.out.c0
  have Q8 := hide (eqTree_v l (.slice p7 l.length c7) (.slice p1 l.length c1) _ (by omega) L7.out.nod L1g.out.nod)
  go_wp2_with fail
  refine Q8.out.mono ?_
  rintro e w8 ⟨rfl, hb8⟩
  rw [hz7] at hb8
  have hs8 := hb8.size
  rw [hz7] at hs8
  have L1h := hide (L1g.out.below hb8 (by omega))
  have L2h := hide (L2g.out.below hb8 (by omega))
  have L7h := hide (L7.out.below hb8 (by omega))
  have B8 := hide (B7.out.trans (hb8.mono (by omega)))
  clear hb8 Q8 L1g L2g L7 B7 d0 e0
  have d1 := L7h.out.c1
  have d2 := L7h.out.c2
  have e1 := L1h.out.c1
  have e2 := L1h.out.c2
  have Q9 := hide (eqFault_same a b w8)
  go_wp2_with fail
  refine Q9.out.mono ?_
  rintro e w9 ⟨rfl, hb9⟩
  have hs9 := hb9.size
  have L2i := hide (L2h.out.below hb9 (by omega))
  have B9 := hide (B8.out.trans (hb9.mono (by omega)))
  clear hb9 Q9 L1h L2h L7h B8 d1 d2 e1 e2
  have d0 := L2i.out.c0
  have Q10 := hide (heldT_t l.length (w1.heap.size + 2) w2.heap.size (.slice p2 l.length c2) w9 (by omega) L2i.out.row)
  go_wp2_with fail
  refine Q10.out.mono ?_
  rintro e w10 ⟨rfl, hb10⟩
  have B10 := hide (B9.out.trans (hb10.mono (by omega)))
  clear hb10 Q10 L2i B9 d0
  go_wp2
  go_ret
  exact ⟨rfl, B10.out⟩
end Go.Proofs.YtfjoecbkagedbaaGreatDoor
