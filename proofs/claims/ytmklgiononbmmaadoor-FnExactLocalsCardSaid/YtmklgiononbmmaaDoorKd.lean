/- Walks: go1, on the specification's side. -/
import Derived.Test.YtmklgiononbmmaaDoorKc
import Derived.Deep.CutRange
namespace Go.Proofs.YtmklgiononbmmaaDoor
open Go.RowKit

theorem step_append_own {P : Program} {ops : Array Oper} {o : Oper} {a : Act} {w : World} {K : Act → World → Prop} {Q : Exit → Act → World → Prop} {E : Prop}
    (hgd : o.guard = none) (s x : Operand) (t : TypeId) (ho : o.op = .call { callee := .builtin .append, args := #[s, x], argTypes := #[t, t] })
    (base : Nat) (e : TypeId) (i : TypeInfo) (z : Value) (size bytes : Nat) (ht : P.underlying t = some (.slice e)) (hi : P.info? e = some i) (hz : i.zero = some z)
    (hsize : i.size = size) (hby : i.bytes = bytes) (hzs : z.cells.size = size) (hsz : 0 < size)
    (v : Value) (n : Nat) (xs : List Value) (hs : a.eval s = v) (hown : w.ownsRow base e size v n xs)
    (ad : Addr) (m c : Nat) (news : List Value) (hx : a.eval x = .slice (some ad) m c) (hl : news.length = m * size) (hnews : ∀ j u, news[j]? = some u → w.cell? (ad.add j) = some u) (h1 : ∀ u ∈ news, u.oneCell' = true)
    (h63 : n + m ≤ maxLen) (hbytes : (n + m) * bytes ≤ 140737488355328) (hbase : base ≤ w.heap.size)
    (hK : ∀ v' w', w'.ownsRow base e size v' (n + m) (xs ++ news) → w.grownBy w' v.ownBlock → (v' = .slice none 0 0 ↔ v = .slice none 0 0 ∧ m = 0) → (v'.ownBlock = v.ownBlock ∨ v'.ownBlock = some w.heap.size) → K (a.put o.dst v') w') :
    if Region.wanted o (yielded ops a.tmps) = true then Oper.wp P o a w K Q else E := by
  have hw : Region.wanted o (yielded ops a.tmps) = true := by simp [Region.wanted, hgd]
  rw [if_pos hw]
  obtain ⟨v', w', hr, h2, h3, h4, h5⟩ := run_append_own_at (P := P) w base t o.type e i z size bytes ht hi hz hsize hby hzs hsz v n xs hown ad m c news hl hnews h1 h63 hbytes hbase
  unfold Oper.wp execOp
  simp only [ho, resolve, invoke, builtin, Sem.run_bind, Sem.run_pure, Result.andThen_ok, List.map_toArray, List.map_cons, List.map_nil, hs, hx, hr]
  exact hK _ _ h2 h3 h4 h5

/-- The cells of a node in a new block; of nothing; of a known name. -/
abbrev ndO (d : Tr.Nd) : Obj := .cells #[.int .i64 d.kind, .int .i64 d.op, .int .i64 d.n, .string d.text, .int .i64 d.kids] 61
abbrev emO : Obj := .cells #[] 86
abbrev knO (x : ByteArray) (k : Nat) : Obj := .cells #[.string x, .int .i64 k] 86
theorem em_row (w : World) (o : Obj) : ((w.alloc o).alloc emO).ownsRow (w.heap.size + 1) 86 2 (.slice (some ⟨w.heap.size + 1, 0, none⟩) 0 0) 0 [] := by
  have := World.ownsRow_lit (base := w.heap.size + 1) (e := 86) (size := 2) (w.alloc o) #[] 0 (by simp) (Nat.zero_le _) rfl
  rwa [World.size_alloc] at this
theorem em_row2 (w : World) (o p : Obj) : (((w.alloc o).alloc p).alloc emO).ownsRow (w.heap.size + 1) 86 2 (.slice (some ⟨w.heap.size + 1 + 1, 0, none⟩) 0 0) 0 [] := by
  have := World.ownsRow_lit (base := w.heap.size + 1) (e := 86) (size := 2) ((w.alloc o).alloc p) #[] 0 (by simp) (Nat.zero_le _) rfl
  rwa [World.size_alloc, World.size_alloc] at this
theorem below_al (w : World) (o : Obj) : Below w.heap.size w (w.alloc o) := (Below.refl _ _).alloc (Nat.le_refl _) _
theorem nd_cell (w : World) (d : Tr.Nd) : (w.alloc (ndO d)).cell? ⟨w.heap.size, 3, none⟩ = some (.string d.text) := by rw [World.cell?, heap_alloc_new']; rfl
theorem kn_cells (w : World) (x : ByteArray) (k : Nat) : ∀ (j : Nat) (u : Value), (Tr.knCells [(x, k)])[j]? = some u → (w.alloc (knO x k)).cell? ((⟨w.heap.size, 0, none⟩ : Addr).add j) = some u := cell_two w x k _
theorem kn_cells_at {w X : World} {b : Nat} {x : ByteArray} {k : Nat} (h : ∀ (j : Nat) (u : Value), (Tr.knCells [(x, k)])[j]? = some u → w.cell? ((⟨b, 0, none⟩ : Addr).add j) = some u) (hb : X.heap[b]? = w.heap[b]?) : ∀ (j : Nat) (u : Value), (Tr.knCells [(x, k)])[j]? = some u → X.cell? ((⟨b, 0, none⟩ : Addr).add j) = some u := by
  intro j u hu
  have := h j u hu
  rw [add_plain] at this ⊢
  exact (World.cell?_of_block hb).trans this

set_option maxRecDepth 100000 in
set_option maxHeartbeats 4000000 in
theorem go1_step (ns : List Tr.Nd) (ks : List (List Nat)) (wb tg tc kg kc cg bg f : Nat) (hG : GoOk ns ks wb tg tc kg kc cg bg f (Tr.go1 ns ks f)) (hn : ns.length ≤ 5000)
    (hkid : ∀ k (h : k < ks.length), ∀ x ∈ ks[k], x < k) (hlen : ∀ k (h : k < ks.length), (ks[k]).length ≤ 5000 ∧ (Tr.kindOf ns k = 14 → (ks[k]).length = 2) ∧ (Tr.kindOf ns k = 16 → 1 ≤ (ks[k]).length) ∧ (Tr.kindOf ns k = 15 ∨ Tr.kindOf ns k = 20 → 1 ≤ (ks[k]).length)) : GoOk ns ks wb tg tc kg kc cg bg (f + 1) (Tr.go1 ns ks (f + 1)) := by
  intro k kng knc kn s w hkf hkn hb hF hD hK hg1 hg2
  obtain ⟨iK, hKi, hKz, hKs, hKb⟩ := info_parts Tryd.infoKn
  have hkk : k < ks.length := by rw [hF.len]; exact hkn
  obtain ⟨n0, n1, n2, n3, n4⟩ := hF.nodes.2 k hkn
  obtain ⟨rg, rc, hrow, hr1, hr2, hri⟩ := hF.kids k hkk
  have f0 := hF.f0
  have f1 := hF.f1
  have HG := hide hG
  have HF := hide hF
  have HD := hide hD
  have HK := hide hK
  have HKD := hide (hkid k hkk)
  have hle := hlen k hkk
  rw [Tr.kindOf_at hkn] at hle
  clear hlen
  have HKA := hide hkid
  have HRI := hide hri
  have HGO := hide (show Tr.go1 ns ks (f + 1) k kn s = (if ns[k].kind = 5 then Tr.useS ns k kn s
    else if ns[k].kind = 23 then s
    else if ns[k].kind = 15 ∨ ns[k].kind = 20 then Tr.fnS (Tr.go1 ns ks f) ns ks ks[k] [] kn false s
    else if ns[k].kind = 14 ∨ ns[k].kind = 16 then Tr.letS (Tr.go1 ns ks f) kn (kn ++ [(ns[k].text, k)]) s ks[k]
    else ks[k].foldl (fun s y => Tr.go1 ns ks f y kn s) s) by
      rw [Tr.go1, Tr.kindOf_at hkn, Tr.textOf_at hkn, show Tr.kidsOf ks k = ks[k] from by simp [Tr.kidsOf, hkk]])
  have hc1 := (hD.c.lt cg rfl).2
  have hc2 := (hD.b.lt bg rfl).2
  have hkl := HK.out.1
  have hw0 := hF.wlt
  have hw1 := hF.klt
  clear hG hF hD hK hkid hri
  generalize ns[k] = d at *
  generalize ks[k] = ls at *
  have HR1 := hide (em_row w (ndO d)).drew
  have HR2 := hide ((em_row w (ndO d)).alloc (knO d.text k)).drew
  have HR3 := hide (em_row2 w (ndO d) (knO d.text k)).drew
  have hb1 : Below (w.heap.size + 1) (w.alloc (ndO d)) ((w.alloc (ndO d)).alloc emO) := by have := below_al (w.alloc (ndO d)) emO; rwa [World.size_alloc] at this
  have hb3 : Below (w.heap.size + 1) (w.alloc (ndO d)) ((w.alloc (ndO d)).alloc (knO d.text k)) := by have := below_al (w.alloc (ndO d)) (knO d.text k); rwa [World.size_alloc] at this
  have HBX1 := hide hb1.drew
  have HBX2 := hide (hb1.alloc (by simp) (knO d.text k)).drew
  have HBX3 := hide (hb3.alloc (by simp) emO).drew
  have hka := HK.out.kept (cg := cg) (bg := bg) ((Kp.refl _ _ _).alloc (ndO d)) hg1 hg2
  have HN1 := hide (kn_news (hka.kept (cg := cg) (bg := bg) (((Kp.refl _ _ _).alloc emO).drew) hg1 hg2))
  have HN2 := hide (kn_news (hka.kept (cg := cg) (bg := bg) ((((Kp.refl _ _ _).alloc emO).alloc (knO d.text k)).drew) hg1 hg2))
  have HN3 := hide (kn_news (hka.kept (cg := cg) (bg := bg) ((((Kp.refl _ _ _).alloc (knO d.text k)).alloc emO).drew) hg1 hg2))
  have hnd := nd_cell w d
  have HC1 := hide ((HBX1.out.cell (p := ⟨w.heap.size, 3, none⟩) (Nat.lt_succ_self _)).trans hnd)
  have HC2 := hide ((HBX2.out.cell (p := ⟨w.heap.size, 3, none⟩) (Nat.lt_succ_self _)).trans hnd)
  have HC3 := hide ((HBX3.out.cell (p := ⟨w.heap.size, 3, none⟩) (Nat.lt_succ_self _)).trans hnd)
  have HZ1 : Hid (w.heap.size + 1 ≤ ((w.alloc (ndO d)).alloc emO).drew.heap.size) := hide (by have := HBX1.out.size; rwa [World.size_alloc] at this)
  have HZ2 : Hid (w.heap.size + 1 ≤ (((w.alloc (ndO d)).alloc emO).alloc (knO d.text k)).drew.heap.size) := hide (by have := HBX2.out.size; rwa [World.size_alloc] at this)
  have HZ3 : Hid (w.heap.size + 1 ≤ (((w.alloc (ndO d)).alloc (knO d.text k)).alloc emO).drew.heap.size) := hide (by have := HBX3.out.size; rwa [World.size_alloc] at this)
  have HL1 := hide (Nat.lt_of_lt_of_le (Nat.lt_succ_self _) HZ1.out)
  have HL2 := hide (Nat.lt_of_lt_of_le (Nat.lt_succ_self _) HZ2.out)
  have HL3 := hide (Nat.lt_of_lt_of_le (Nat.lt_succ_self _) HZ3.out)
  have hp2 := kn_cells ((w.alloc (ndO d)).alloc emO) d.text k
  rw [World.size_alloc, World.size_alloc] at hp2
  have HPC2 := hide (show ∀ (j : Nat) (u : Value), (Tr.knCells [(d.text, k)])[j]? = some u → (((w.alloc (ndO d)).alloc emO).alloc (knO d.text k)).drew.cell? ((⟨w.heap.size + 1 + 1, 0, none⟩ : Addr).add j) = some u from hp2)
  have hp3 := kn_cells (w.alloc (ndO d)) d.text k
  rw [World.size_alloc] at hp3
  have HPC3 := hide (show ∀ (j : Nat) (u : Value), (Tr.knCells [(d.text, k)])[j]? = some u → (((w.alloc (ndO d)).alloc (knO d.text k)).alloc emO).drew.cell? ((⟨w.heap.size + 1, 0, none⟩ : Addr).add j) = some u from kn_cells_at hp3 (by have := below_al ((w.alloc (ndO d)).alloc (knO d.text k)) emO; exact this.block _ (by simp)))
  have HPL2 : Hid (w.heap.size + 1 + 1 < (((w.alloc (ndO d)).alloc emO).alloc (knO d.text k)).drew.heap.size) := hide (by show _ < (((w.alloc (ndO d)).alloc emO).alloc (knO d.text k)).heap.size; simp)
  have HPL3 : Hid (w.heap.size + 1 < (((w.alloc (ndO d)).alloc (knO d.text k)).alloc emO).drew.heap.size) := hide (by show _ < (((w.alloc (ndO d)).alloc (knO d.text k)).alloc emO).heap.size; simp)
  clear hb1 hb3 hka hnd hp2 hp3
  have e1 := ((below_al w (ndO d)).cell (p := ⟨wb, 1, none⟩) hw0).trans f1
  have e2 := ((below_al w (ndO d)).cell (p := ⟨kg, k, none⟩) hw1).trans hrow
  go_enter Tryd.func51, Tryd.ntmps51
  go_upto_region 2 with fail
  go_cut [8] from 26 to 34 (fun v8 wx => ∃ g8 c8, v8 = .slice (some ⟨g8, 0, none⟩) (kn.length + 1) c8 ∧ w.heap.size + 1 ≤ g8 ∧ KnAt wx g8 (kn ++ [(d.text, k)]) ∧ Below (w.heap.size + 1) (w.alloc (ndO d)) wx)
  case first =>
    go_region_law (first
      | (refine step_append_own rfl (.tmp 26) (.tmp 27) 83 rfl (w.heap.size + 1) 86 iK _ 2 24 Tryd.underlying83 hKi hKz hKs hKb rfl (by decide) (.slice (some ⟨w.heap.size + 1, 0, none⟩) 0 0) 0 [] (by first | (simp [Act.eval]; done) | simp [Act.eval, Act.put]) HR1.out ⟨kng, 0, none⟩ kn.length knc (Tr.knCells kn) (by first | (simp [Act.eval]; done) | simp [Act.eval, Act.put]) (Tr.knCells_len kn) HN1.out (Tr.knCells_one kn) (by unfold maxLen; omega) (by omega) HZ1.out ?_; intro v1 w1 hown1 hgrow1 hnil1 hat1; rw [Nat.zero_add, List.nil_append] at hown1; obtain ⟨g1, c1, rfl, hg1'⟩ := lies_formS hown1 (fun e => by simpa using hnil1.1 e) (by simpa [Value.ownBlock] using hat1); have ht1 := (World.cell?_of_block (a := ⟨w.heap.size, 3, none⟩) (hgrow1.block w.heap.size HL1.out (by simp [Value.ownBlock] <;> omega))).trans HC1.out; have hB1 : Below (w.heap.size + 1) (w.alloc (ndO d)) w1 := HBX1.out.grown hgrow1 HZ1.out (fun q e => by simp [Value.ownBlock] at e; omega))
      | (refine step_append_own rfl (.tmp 26) (.tmp 27) 83 rfl (w.heap.size + 1) 86 iK _ 2 24 Tryd.underlying83 hKi hKz hKs hKb rfl (by decide) (.slice (some ⟨w.heap.size + 1, 0, none⟩) 0 0) 0 [] (by first | (simp [Act.eval]; done) | simp [Act.eval, Act.put]) HR2.out ⟨kng, 0, none⟩ kn.length knc (Tr.knCells kn) (by first | (simp [Act.eval]; done) | simp [Act.eval, Act.put]) (Tr.knCells_len kn) HN2.out (Tr.knCells_one kn) (by unfold maxLen; omega) (by omega) HZ2.out ?_; intro v1 w1 hown1 hgrow1 hnil1 hat1; rw [Nat.zero_add, List.nil_append] at hown1; obtain ⟨g1, c1, rfl, hg1'⟩ := lies_formS hown1 (fun e => by simpa using hnil1.1 e) (by simpa [Value.ownBlock] using hat1); have ht1 := (World.cell?_of_block (a := ⟨w.heap.size, 3, none⟩) (hgrow1.block w.heap.size HL2.out (by simp [Value.ownBlock] <;> omega))).trans HC2.out; have hB1 : Below (w.heap.size + 1) (w.alloc (ndO d)) w1 := HBX2.out.grown hgrow1 HZ2.out (fun q e => by simp [Value.ownBlock] at e; omega); have hP1 := kn_cells_at HPC2.out (hgrow1.block (w.heap.size + 1 + 1) HPL2.out (by simp [Value.ownBlock] <;> omega)))
      | (refine step_append_own rfl (.tmp 26) (.tmp 27) 83 rfl (w.heap.size + 1) 86 iK _ 2 24 Tryd.underlying83 hKi hKz hKs hKb rfl (by decide) (.slice (some ⟨w.heap.size + 1 + 1, 0, none⟩) 0 0) 0 [] (by first | (simp [Act.eval]; done) | simp [Act.eval, Act.put]) HR3.out ⟨kng, 0, none⟩ kn.length knc (Tr.knCells kn) (by first | (simp [Act.eval]; done) | simp [Act.eval, Act.put]) (Tr.knCells_len kn) HN3.out (Tr.knCells_one kn) (by unfold maxLen; omega) (by omega) HZ3.out ?_; intro v1 w1 hown1 hgrow1 hnil1 hat1; rw [Nat.zero_add, List.nil_append] at hown1; obtain ⟨g1, c1, rfl, hg1'⟩ := lies_formS hown1 (fun e => by simpa using hnil1.1 e) (by simpa [Value.ownBlock] using hat1); have ht1 := (World.cell?_of_block (a := ⟨w.heap.size, 3, none⟩) (hgrow1.block w.heap.size HL3.out (by simp [Value.ownBlock] <;> omega))).trans HC3.out; have hB1 : Below (w.heap.size + 1) (w.alloc (ndO d)) w1 := HBX3.out.grown hgrow1 HZ3.out (fun q e => by simp [Value.ownBlock] at e; omega); have hP1 := kn_cells_at HPC3.out (hgrow1.block (w.heap.size + 1) HPL3.out (by simp [Value.ownBlock] <;> omega)))
      | (refine step_append_own rfl (.tmp 28) (.tmp 33) 83 rfl (w.heap.size + 1) 86 iK _ 2 24 Tryd.underlying83 hKi hKz hKs hKb rfl (by decide) (.slice (some ⟨g1, 0, none⟩) kn.length c1) kn.length (Tr.knCells kn) (by first | (simp [Act.eval]; done) | simp [Act.eval, Act.put]) (hown1.alloc _) ⟨w1.heap.size, 0, none⟩ 1 1 (Tr.knCells [(d.text, k)]) (by first | (simp [Act.eval]; done) | simp [Act.eval, Act.put]) rfl (kn_cells _ _ _) (Tr.knCells_one _) (by unfold maxLen; omega) (by omega) (by have := hB1.size; simp at *; omega) ?_; intro v2 w2 hown2 hgrow2 hnil2 hat2; have hB2 : Below (w.heap.size + 1) (w.alloc (ndO d)) w2 := (hB1.alloc (by have := hB1.size; simp at *; omega) _).grown hgrow2 (by have := hB1.size; simp at *; omega) (fun q e => by simp [Value.ownBlock] at e; omega))
      | (refine step_append_own rfl (.tmp 28) (.tmp 33) 83 rfl (w.heap.size + 1) 86 iK _ 2 24 Tryd.underlying83 hKi hKz hKs hKb rfl (by decide) (.slice (some ⟨g1, 0, none⟩) kn.length c1) kn.length (Tr.knCells kn) (by first | (simp [Act.eval]; done) | simp [Act.eval, Act.put]) hown1 ⟨w.heap.size + 1 + 1, 0, none⟩ 1 1 (Tr.knCells [(d.text, k)]) (by first | (simp [Act.eval]; done) | simp [Act.eval, Act.put]) rfl hP1 (Tr.knCells_one _) (by unfold maxLen; omega) (by omega) (by have := hB1.size; simp at *; omega) ?_; intro v2 w2 hown2 hgrow2 hnil2 hat2; have hB2 : Below (w.heap.size + 1) (w.alloc (ndO d)) w2 := hB1.grown hgrow2 (by have := hB1.size; simp at *; omega) (fun q e => by simp [Value.ownBlock] at e; omega))
      | (refine step_append_own rfl (.tmp 28) (.tmp 33) 83 rfl (w.heap.size + 1) 86 iK _ 2 24 Tryd.underlying83 hKi hKz hKs hKb rfl (by decide) (.slice (some ⟨g1, 0, none⟩) kn.length c1) kn.length (Tr.knCells kn) (by first | (simp [Act.eval]; done) | simp [Act.eval, Act.put]) hown1 ⟨w.heap.size + 1, 0, none⟩ 1 1 (Tr.knCells [(d.text, k)]) (by first | (simp [Act.eval]; done) | simp [Act.eval, Act.put]) rfl hP1 (Tr.knCells_one _) (by unfold maxLen; omega) (by omega) (by have := hB1.size; simp at *; omega) ?_; intro v2 w2 hown2 hgrow2 hnil2 hat2; have hB2 : Below (w.heap.size + 1) (w.alloc (ndO d)) w2 := hB1.grown hgrow2 (by have := hB1.size; simp at *; omega) (fun q e => by simp [Value.ownBlock] at e; omega)))
    all_goals
      go_wp2_with fail
      go_meet
      case rel =>
        obtain ⟨g8, c8, rfl, hg8⟩ := lies_formS hown2 (fun e => by simpa using hnil2.1 e) (by simpa [Value.ownBlock] using hat2)
        refine ⟨g8, c8, rfl, (hown2.lt g8 rfl).1, ?_, hB2⟩
        have hlen : (kn ++ [(d.text, k)]).length = kn.length + 1 := by simp
        rw [← Tr.knCells_snoc, ← hlen] at hown2
        exact kn_of_row hown2
  case rest =>
    obtain ⟨g8, c8, rfl, hg8, hK8, hB8⟩ := hcut
    have hBw : Below w.heap.size w wc := (below_al w (ndO d)).trans (hB8.mono (by omega))
    have hFc := HF.out.kept (Kp.of_below (cg := cg) (bg := bg) hBw)
    have hDc := HD.out.below hBw
    have hKc := HK.out.kept (cg := cg) (bg := bg) (Kp.of_below hBw) hg1 hg2
    have hIc := HRI.out.below hBw
    have hkd : wc.cell? ⟨w.heap.size, 0, none⟩ = some (.int .i64 d.kind) := (hB8.cell (p := ⟨w.heap.size, 0, none⟩) (Nat.lt_succ_self _)).trans (by rw [World.cell?, heap_alloc_new']; rfl)
    have hcw := hBw.size
    have HFc := hide hFc
    have HDc := hide hDc
    have HKc := hide hKc
    have HIc := hide hIc
    have HK8 := hide hK8
    clear hFc hDc hKc hIc hK8 hB8 HR1 HR2 HR3 HBX1 HBX2 HBX3 HN1 HN2 HN3 HC1 HC2 HC3 HZ1 HZ2 HZ3 HL1 HL2 HL3 HPC2 HPC3 HPL2 HPL3 e1 e2 f0 f1 n0 n1 n2 n3 n4 hrow
    have HBW := hide hBw
    clear hBw
    by_cases h5 : d.kind = 5
    · have HGO2 : Hid (Tr.go1 ns ks (f + 1) k kn s = Tr.useS ns k kn s) := hide (by rw [HGO.out, if_pos h5])
      rw [h5] at hkd
      go_wp2_with fail
      refine (use_any ns ks wb tg tc kg kc cg bg k kng knc kn s wc hkn (by omega) HFc.out HDc.out HKc.out).mono ?_
      rintro e w3 ⟨rfl, hk3, hd3⟩
      go_wp2
      (first | go_end0 | refine bodyPost_ret (results_none rfl _ _ _) rfl ?_)
      exact ⟨rfl, (Kp.of_below HBW.out).trans hk3, by rw [HGO2.out]; exact hd3⟩
    by_cases h23 : d.kind = 23
    · have HGO2 : Hid (Tr.go1 ns ks (f + 1) k kn s = s) := hide (by rw [HGO.out, if_neg h5, if_pos h23])
      rw [h23] at hkd
      go_wp2
      (first | go_end0 | refine bodyPost_ret (results_none rfl _ _ _) rfl ?_)
      exact ⟨rfl, Kp.of_below HBW.out, by rw [HGO2.out]; exact HDc.out⟩
    have q5 : (d.kind == 5) = false := by simpa using h5
    have q23 : (d.kind == 23) = false := by simpa using h23
    by_cases h15 : d.kind = 15 ∨ d.kind = 20
    · have HGO2 : Hid (Tr.go1 ns ks (f + 1) k kn s = Tr.fnS (Tr.go1 ns ks f) ns ks ls [] kn false s) := hide (by rw [HGO.out, if_neg h5, if_neg h23, if_pos h15])
      have HFN := hide (function_any ns ks wb tg tc kg kc cg bg f (Tr.go1 ns ks f) HG.out hn HKA.out ls rg rc kng knc kn s wc (fun x hx => by have := HKD.out x hx; omega) (hle.2.2.2 h15) hle.1 (by omega) HFc.out HDc.out HKc.out HIc.out hr1 hr2 (by omega) (by omega))
      rcases h15 with h15 | h15
      all_goals
        rw [h15] at hkd
        go_wp2_with fail
        refine HFN.out.mono ?_
        rintro e w3 ⟨rfl, hk3, hd3⟩
        go_wp2
        (first | go_end0 | refine bodyPost_ret (results_none rfl _ _ _) rfl ?_)
        exact ⟨rfl, (Kp.of_below HBW.out).trans hk3, by rw [HGO2.out]; exact hd3⟩
    have q15 : (d.kind == 15) = false := by simp; omega
    have q20 : (d.kind == 20) = false := by simp; omega
    by_cases h14 : d.kind = 14
    · have hl2 := hle.2.1 h14
      obtain ⟨x, y, rfl⟩ : ∃ x y, ls = [x, y] := by
        match ls, hl2 with
        | [x, y], _ => exact ⟨x, y, rfl⟩
      have HGO2 : Hid (Tr.go1 ns ks (f + 1) k kn s = Tr.go1 ns ks f y (kn ++ [(d.text, k)]) (Tr.go1 ns ks f x kn s)) := hide (by rw [HGO.out, if_neg h5, if_neg h23, if_neg h15, if_pos (.inl h14)]; rfl)
      have hx0 := HIc.out.2 0 (by simp)
      have hx1 := HIc.out.2 1 (by simp)
      simp only [Nat.zero_add, List.getElem_cons_zero, List.getElem_cons_succ] at hx0 hx1
      have hxk := HKD.out x (by simp)
      have hyk := HKD.out y (by simp)
      rw [h14] at hkd
      go_wp2_with fail
      refine (HG.out x kng knc kn s wc (by omega) (by omega) (by omega) HFc.out HDc.out HKc.out hg1 hg2).mono ?_
      rintro e w3 ⟨rfl, hk3, hd3⟩
      have hx13 := (hk3.cell (p := ⟨rg, 1, none⟩) HIc.out.1 hr1 hr2).trans hx1
      have hF3 := HFc.out.kept hk3
      have hK3 := HK8.out.kept hk3 (by omega) (by omega)
      have hlk : (kn ++ [(d.text, k)]).length = kn.length + 1 := by simp
      have HGY := hide (HG.out y g8 c8 (kn ++ [(d.text, k)]) (Tr.go1 ns ks f x kn s) w3 (by omega) (by omega) (by omega) hF3 hd3 hK3 (by omega) (by omega))
      rw [hlk] at HGY
      clear hF3 hK3 hx0 hx1 hkd
      go_wp2_with fail
      refine HGY.out.mono ?_
      rintro e w4 ⟨rfl, hk4, hd4⟩
      go_wp2
      (first | go_end0 | refine bodyPost_ret (results_none rfl _ _ _) rfl ?_)
      exact ⟨rfl, ((Kp.of_below HBW.out).trans hk3).trans hk4, by rw [HGO2.out]; exact hd4⟩
    have q14 : (d.kind == 14) = false := by simpa using h14
    by_cases h16 : d.kind = 16
    · have hl1 := hle.2.2.1 h16
      obtain ⟨x, r, rfl⟩ : ∃ x r, ls = x :: r := by
        match ls, hl1 with
        | x :: r, _ => exact ⟨x, r, rfl⟩
      have HGO2 : Hid (Tr.go1 ns ks (f + 1) k kn s = r.foldl (fun s y => Tr.go1 ns ks f y (kn ++ [(d.text, k)]) s) (Tr.go1 ns ks f x kn s)) := hide (by rw [HGO.out, if_neg h5, if_neg h23, if_neg h15, if_pos (.inr h16)]; rfl)
      have hx0 := HIc.out.2 0 (by simp)
      simp only [Nat.zero_add, List.getElem_cons_zero] at hx0
      have hxk := HKD.out x (by simp)
      have hrl : (x :: r).length = r.length + 1 := rfl
      have hr5 := hle.1
      rw [hrl] at hr5
      rw [h16] at hkd
      go_wp2_with fail
      refine (HG.out x kng knc kn s wc (by omega) (by omega) (by omega) HFc.out HDc.out HKc.out hg1 hg2).mono ?_
      rintro e w3 ⟨rfl, hk3, hd3⟩
      have HD3 := hide hd3
      clear hd3 hx0 hkd
      go_wp2
      go_loopw [9] (fun t wr => ∃ i : Nat, i ≤ r.length ∧ t = .int .i64 ((i : Int) + 1) ∧ Kp cg bg wc wr ∧ Dy ns.length cg bg ((r.take i).foldl (fun s y => Tr.go1 ns ks f y (kn ++ [(d.text, k)]) s) (Tr.go1 ns ks f x kn s)) wr) (fun t _ => r.length + 1 - (intOf t).toNat)
      case atStart => exact ⟨0, Nat.zero_le _, rfl, hk3, HD3.out⟩
      case round =>
        obtain ⟨i, hi, rfl, hKr, hDr⟩ := hrel
        have HDr := hide hDr
        clear hDr
        by_cases hlt : i < r.length
        · have hxi := (hKr.cell (p := ⟨rg, 0 + (i + 1), none⟩) HIc.out.1 hr1 hr2).trans (HIc.out.2 (i + 1) (by simp; omega))
          simp only [Nat.zero_add, List.getElem_cons_succ] at hxi
          have hyk := HKD.out r[i] (by simp)
          have hlk : (kn ++ [(d.text, k)]).length = kn.length + 1 := by simp
          have HGY := hide (HG.out r[i] g8 c8 (kn ++ [(d.text, k)]) _ wr (by omega) (by omega) (by omega) (HFc.out.kept hKr) HDr.out (HK8.out.kept hKr (by omega) (by omega)) (by omega) (by omega))
          rw [hlk] at HGY
          have HTK := hide (show (r.take (i + 1)).foldl (fun s y => Tr.go1 ns ks f y (kn ++ [(d.text, k)]) s) (Tr.go1 ns ks f x kn s) = Tr.go1 ns ks f r[i] (kn ++ [(d.text, k)]) ((r.take i).foldl (fun s y => Tr.go1 ns ks f y (kn ++ [(d.text, k)]) s) (Tr.go1 ns ks f x kn s)) by rw [List.take_succ_eq_append_getElem hlt, List.foldl_append]; rfl)
          generalize r[i] = y at *
          go_wp2_with fail
          refine HGY.out.mono ?_
          rintro e w4 ⟨rfl, hk4, hd4⟩
          go_wp2
          go_roundw
          case rel => exact ⟨i + 1, by omega, by go_num, hKr.trans hk4, by rw [HTK.out]; exact hd4⟩
          case measure => simp [intOf]; omega
        · have HTK := hide (show r.take i = r from List.take_of_length_le (by omega))
          go_wp2
          (first | go_end0 | refine bodyPost_ret (results_none rfl _ _ _) rfl ?_)
          exact ⟨rfl, (Kp.of_below HBW.out).trans hKr, by rw [HGO2.out]; have := HDr.out; rwa [HTK.out] at this⟩
    have q16 : (d.kind == 16) = false := by simpa using h16
    have HGO2 : Hid (Tr.go1 ns ks (f + 1) k kn s = ls.foldl (fun s y => Tr.go1 ns ks f y kn s) s) := hide (by rw [HGO.out, if_neg h5, if_neg h23, if_neg h15, if_neg (by omega)])
    have hr5 := hle.1
    go_wp2
    go_loopw [10] (fun t wr => ∃ i : Nat, i ≤ ls.length ∧ t = .int .i64 i ∧ Kp cg bg wc wr ∧ Dy ns.length cg bg ((ls.take i).foldl (fun s y => Tr.go1 ns ks f y kn s) s) wr) (fun t _ => ls.length - (intOf t).toNat)
    case atStart => exact ⟨0, Nat.zero_le _, rfl, Kp.refl _ _ _, HDc.out⟩
    case round =>
      obtain ⟨i, hi, rfl, hKr, hDr⟩ := hrel
      have HDr := hide hDr
      clear hDr
      by_cases hlt : i < ls.length
      · have hxi := (hKr.cell (p := ⟨rg, 0 + i, none⟩) HIc.out.1 hr1 hr2).trans (HIc.out.2 i hlt)
        simp only [Nat.zero_add] at hxi
        have hyk := HKD.out ls[i] (List.getElem_mem hlt)
        have HGY := hide (HG.out ls[i] kng knc kn _ wr (by omega) (by omega) (by omega) (HFc.out.kept hKr) HDr.out (HKc.out.kept hKr hg1 hg2) hg1 hg2)
        have HTK := hide (show (ls.take (i + 1)).foldl (fun s y => Tr.go1 ns ks f y kn s) s = Tr.go1 ns ks f ls[i] kn ((ls.take i).foldl (fun s y => Tr.go1 ns ks f y kn s) s) by rw [List.take_succ_eq_append_getElem hlt, List.foldl_append]; rfl)
        generalize ls[i] = y at *
        go_wp2_with fail
        refine HGY.out.mono ?_
        rintro e w4 ⟨rfl, hk4, hd4⟩
        go_wp2
        go_roundw
        case rel => exact ⟨i + 1, by omega, by go_num, hKr.trans hk4, by rw [HTK.out]; exact hd4⟩
        case measure => simp [intOf]; omega
      · have HTK := hide (show ls.take i = ls from List.take_of_length_le (by omega))
        go_wp2
        (first | go_end0 | refine bodyPost_ret (results_none rfl _ _ _) rfl ?_)
        exact ⟨rfl, (Kp.of_below HBW.out).trans hKr, by rw [HGO2.out]; have := HDr.out; rwa [HTK.out] at this⟩

theorem go1_any (ns : List Tr.Nd) (ks : List (List Nat)) (wb tg tc kg kc cg bg : Nat) (hn : ns.length ≤ 5000) (hkid : ∀ k (h : k < ks.length), ∀ x ∈ ks[k], x < k)
    (hlen : ∀ k (h : k < ks.length), (ks[k]).length ≤ 5000 ∧ (Tr.kindOf ns k = 14 → (ks[k]).length = 2) ∧ (Tr.kindOf ns k = 16 → 1 ≤ (ks[k]).length) ∧ (Tr.kindOf ns k = 15 ∨ Tr.kindOf ns k = 20 → 1 ≤ (ks[k]).length)) (f : Nat) :
    GoOk ns ks wb tg tc kg kc cg bg f (Tr.go1 ns ks f) := by
  induction f with
  | zero => intro k kng knc kn s w hkf; omega
  | succ f ih => exact go1_step ns ks wb tg tc kg kc cg bg f ih hn hkid hlen
end Go.Proofs.YtmklgiononbmmaaDoor
