/- Walks: perform with one arg that is a value. -/
import Derived.Test.YtfpdoafpimaoaaaUd
namespace Go.Proofs.Ytfpdoafpimaoaaa.Vl
open Go.RowKit T.atoms T.ok T.high T.good T.allPlain

theorem PB.put {w W : World} {fv xv : Value} (h : PB w fv xv W) (v : Value) : PB w fv v (W.setCell ⟨w.heap.size + 1 + 1, 0, none⟩ v) := by
  have e : ∀ q, q ≠ w.heap.size + 1 + 1 → (W.setCell ⟨w.heap.size + 1 + 1, 0, none⟩ v).heap[q]? = W.heap[q]? := fun q hq => Below.heap_setCell _ _ _ _ hq
  have hs : (W.setCell ⟨w.heap.size + 1 + 1, 0, none⟩ v).heap.size = W.heap.size := by simp
  refine ⟨h.B.setCell (p := ⟨w.heap.size + 1 + 1, 0, none⟩) (by simp; omega) _, (World.cell?_of_block (a := ⟨w.heap.size, 1, none⟩) (e w.heap.size (by omega))).trans h.d, (World.cell?_of_block (a := ⟨w.heap.size + 1, 0, none⟩) (e (w.heap.size + 1) (by omega))).trans h.r, ?_, ?_, ?_, by rw [hs]; exact h.z⟩
  · simpa using h.f
  · exact World.cell?_setCell_same _ _ _ h.v
  · simpa using h.vf
set_option maxRecDepth 100000 in
set_option maxHeartbeats 1000000 in
theorem perform_wordB (r : List At × List UInt8) (b g c n gv : Nat) (kv : Value) (l : List At) (t : T) (w : World) (hr : r = ([], wType)) (hcl : ∀ xv gg W, Leaf t.kind t.num xv → W.cell? ⟨gg, 0, none⟩ = some xv → W.cell? ⟨b, 0, none⟩ = some kv → Calls Try.prog 81 #[.slice (some ⟨gg, 0, none⟩) 1 1, .pointer (some ⟨b, 0, none⟩)] W fun e w' => e = .returned (.tuple #[.nilIface, .string ⟨#[116, 121, 112, 101]⟩]) ∧ w' = W) (htr : treeOf l = some t) (hv : valid l = true) (hn : l.length = n) (hl : l.length ≤ 1048576) (ht : AtomsO w g 0 l) (hgv : gv < w.heap.size) (hc : w.cell? ⟨gv, 0, none⟩ = some (.slice (some ⟨g, 0, none⟩) n c)) (hbk : b < w.heap.size) (hk : w.cell? ⟨b, 0, none⟩ = some kv) :
    Calls Try.prog 35 #[deedV 1 81 b, .slice (some ⟨gv, 0, none⟩) 1 1] w fun e w' => PPost w r e w' := by
  have HR := hide hr
  have HD := hide (fun w' (hb : Below w.heap.size w w') => datumOf_any l g c w' hl (ht.below hb))
  rw [hn] at HD
  unfold DPost at HD
  rw [hv] at HD
  have HT := hide htr
  clear ht hv hl hr hn htr
  unfold deedV
  have hf := fn_nil 81 b
  obtain ⟨iD, hDi, hDz, hDs, hDb⟩ := info_parts Try.infoDat
  go_enter Try.func35, Try.ntmps35
  go_wp2_with (at_make; refine wpList_make_full _ rfl _ _ 74 rfl w.heap.size 49 iD _ 1 Try.underlying74 hDi hDz hDs _ _ _ _ 1 rfl rfl rfl rfl (by rw [hDb]; omega) (by unfold maxLen; omega) (by simp; omega) ?_)
  intro w1 hown hgrow
  have HP := hide (PB.start hown hgrow)
  clear hown hgrow hf
  go_wp2_with fail
  go_loopw [29] (fun u wr => (u = .int .i64 0 ∧ PB w (.func (.func 81) #[] #[.pointer (some ⟨b, 0, none⟩)]) .nilIface wr) ∨ (u = .int .i64 1 ∧ ∃ xv, Leaf t.kind t.num xv ∧ PB w (.func (.func 81) #[] #[.pointer (some ⟨b, 0, none⟩)]) xv wr)) (fun u _ => 1 - (intOf u).toNat)
  case atStart => exact .inl ⟨rfl, HP.out⟩
  case round =>
    rcases hrel with ⟨rfl, p⟩ | ⟨rfl, xv, hx, p⟩
    · have cc := (p.B.cell (p := ⟨gv, 0, none⟩) hgv).trans hc
      go_wp2_with fail
      have p2 := p.below (W' := wr.alloc (.cells #[.slice (some ⟨g, 0, none⟩) n c] 25)) ((Below.refl _ _).alloc (Nat.le_refl _) _)
      refine (HD.out _ p2.B).mono ?_
      rintro e w2 ⟨hb2, v, rfl, hd⟩
      obtain ⟨t', x, ht', _, _, hD⟩ := hd trivial
      obtain rfl : t' = t := Option.some.inj (ht'.symm.trans HT.out)
      have p3 := p2.below hb2
      have hx := leaf_of hD
      have hvs := p3.v
      have hvf := p3.vf
      obtain ⟨y, u, rfl, hx2⟩ := hx
      have HX := hide hx2
      clear hb2 hD cc p p2 ht' hx2
      go_wp2
      go_roundw
      case rel => exact .inr ⟨rfl, _, ⟨y, u, rfl, HX.out⟩, p3.put _⟩
      case measure => simp [intOf]
    · have cv := p.v
      have cd := p.d
      have ck := (p.B.cell (p := ⟨b, 0, none⟩) hbk).trans hk
      have cr := p.r
      have fr := p.f
      have HC := hide (hcl _ (w.heap.size + 1 + 1) wr hx cv ck)
      obtain ⟨y, u, rfl, hx2⟩ := hx
      clear hx2 hcl
      go_wp2_with fail
      refine HC.out.mono ?_
      rintro e w2 ⟨rfl, rfl⟩
      go_wp2
      refine bodyPost_ret (v := .tuple #[.agg #[.slice none 0 0], .string (txt wType)]) (by simp [results, Try.results35, go_sem, cr, txt, wType]) rfl (ppost_no HR.out (p.set _))
set_option maxRecDepth 100000 in
set_option maxHeartbeats 1000000 in
theorem perform_madeB (r : List At × List UInt8) (b g c n gv : Nat) (kv : Value) (l : List At) (t : T) (w : World) (a : At) (dv : Value) (hr : r = ([a], [])) (HA : Hid (∀ w, Calls Try.prog 80 #[dv, .slice none 0 0] w fun e w' => ∃ g c, e = .returned (.slice (some ⟨g, 0, none⟩) 1 c) ∧ w'.ownsRow w.heap.size 55 4 (.slice (some ⟨g, 0, none⟩) 1 c) 1 [.int .i64 a.kind, .int .i64 a.n, .string a.text, .int .i64 a.kids] ∧ Below w.heap.size w w')) (hcl : ∀ xv gg W, Leaf t.kind t.num xv → W.cell? ⟨gg, 0, none⟩ = some xv → W.cell? ⟨b, 0, none⟩ = some kv → Calls Try.prog 81 #[.slice (some ⟨gg, 0, none⟩) 1 1, .pointer (some ⟨b, 0, none⟩)] W fun e w' => e = .returned (.tuple #[dv, .string ⟨#[]⟩]) ∧ w' = W) (htr : treeOf l = some t) (hv : valid l = true) (hn : l.length = n) (hl : l.length ≤ 1048576) (ht : AtomsO w g 0 l) (hgv : gv < w.heap.size) (hc : w.cell? ⟨gv, 0, none⟩ = some (.slice (some ⟨g, 0, none⟩) n c)) (hbk : b < w.heap.size) (hk : w.cell? ⟨b, 0, none⟩ = some kv) :
    Calls Try.prog 35 #[deedV 1 81 b, .slice (some ⟨gv, 0, none⟩) 1 1] w fun e w' => PPost w r e w' := by
  have HR := hide hr
  have HD := hide (fun w' (hb : Below w.heap.size w w') => datumOf_any l g c w' hl (ht.below hb))
  rw [hn] at HD
  unfold DPost at HD
  rw [hv] at HD
  have HT := hide htr
  clear ht hv hl hr hn htr
  unfold deedV
  have hf := fn_nil 81 b
  obtain ⟨iD, hDi, hDz, hDs, hDb⟩ := info_parts Try.infoDat
  go_enter Try.func35, Try.ntmps35
  go_wp2_with (at_make; refine wpList_make_full _ rfl _ _ 74 rfl w.heap.size 49 iD _ 1 Try.underlying74 hDi hDz hDs _ _ _ _ 1 rfl rfl rfl rfl (by rw [hDb]; omega) (by unfold maxLen; omega) (by simp; omega) ?_)
  intro w1 hown hgrow
  have HP := hide (PB.start hown hgrow)
  clear hown hgrow hf
  go_wp2_with fail
  go_loopw [29] (fun u wr => (u = .int .i64 0 ∧ PB w (.func (.func 81) #[] #[.pointer (some ⟨b, 0, none⟩)]) .nilIface wr) ∨ (u = .int .i64 1 ∧ ∃ xv, Leaf t.kind t.num xv ∧ PB w (.func (.func 81) #[] #[.pointer (some ⟨b, 0, none⟩)]) xv wr)) (fun u _ => 1 - (intOf u).toNat)
  case atStart => exact .inl ⟨rfl, HP.out⟩
  case round =>
    rcases hrel with ⟨rfl, p⟩ | ⟨rfl, xv, hx, p⟩
    · have cc := (p.B.cell (p := ⟨gv, 0, none⟩) hgv).trans hc
      go_wp2_with fail
      have p2 := p.below (W' := wr.alloc (.cells #[.slice (some ⟨g, 0, none⟩) n c] 25)) ((Below.refl _ _).alloc (Nat.le_refl _) _)
      refine (HD.out _ p2.B).mono ?_
      rintro e w2 ⟨hb2, v, rfl, hd⟩
      obtain ⟨t', x, ht', _, _, hD⟩ := hd trivial
      obtain rfl : t' = t := Option.some.inj (ht'.symm.trans HT.out)
      have p3 := p2.below hb2
      have hx := leaf_of hD
      have hvs := p3.v
      have hvf := p3.vf
      obtain ⟨y, u, rfl, hx2⟩ := hx
      have HX := hide hx2
      clear hb2 hD cc p p2 ht' hx2
      go_wp2
      go_roundw
      case rel => exact .inr ⟨rfl, _, ⟨y, u, rfl, HX.out⟩, p3.put _⟩
      case measure => simp [intOf]
    · have cv := p.v
      have cd := p.d
      have ck := (p.B.cell (p := ⟨b, 0, none⟩) hbk).trans hk
      have cr := p.r
      have fr := p.f
      have HC := hide (hcl _ (w.heap.size + 1 + 1) wr hx cv ck)
      obtain ⟨y, u, rfl, hx2⟩ := hx
      clear hx2 hcl
      go_wp2_with fail
      refine HC.out.mono ?_
      rintro e w2 ⟨rfl, rfl⟩
      go_wp2_with fail
      refine (valueOf_one dv a _ HA).mono ?_
      rintro e w3 ⟨v3, rfl, ⟨g3, c3, rfl, ho3⟩, hb3⟩
      have p3 := p.below hb3
      have hg3 := (ho3.lt g3 rfl).1
      have hz := p.z
      have cr3 := p3.r
      have fr3 := p3.f
      have HO := hide ho3
      clear hb3 ho3 cr fr
      go_wp2
      refine bodyPost_ret (v := .tuple #[.agg #[.slice (some ⟨g3, 0, none⟩) 1 c3], .string ⟨#[]⟩]) (by simp [results, Try.results35, go_sem, cr3]) rfl ?_
      rw [HR.out]
      exact ⟨_, rfl, .inr ⟨a, rfl, g3, c3, rfl, row_mono (row_same HO.out (Below.heap_setCell _ _ _ _ (show g3 ≠ w.heap.size + 1 by omega))) (by have := p.B.size; omega)⟩, p3.set _⟩
set_option maxRecDepth 100000 in
set_option maxHeartbeats 1000000 in
theorem perform_wordI (r : List At × List UInt8) (b g c n gv : Nat) (kv : Value) (l : List At) (t : T) (w : World) (hr : r = ([], wType)) (hcl : ∀ xv gg W, Leaf t.kind t.num xv → W.cell? ⟨gg, 0, none⟩ = some xv → W.cell? ⟨b, 0, none⟩ = some kv → Calls Try.prog 82 #[.slice (some ⟨gg, 0, none⟩) 1 1, .pointer (some ⟨b, 0, none⟩)] W fun e w' => e = .returned (.tuple #[.nilIface, .string ⟨#[116, 121, 112, 101]⟩]) ∧ w' = W) (htr : treeOf l = some t) (hv : valid l = true) (hn : l.length = n) (hl : l.length ≤ 1048576) (ht : AtomsO w g 0 l) (hgv : gv < w.heap.size) (hc : w.cell? ⟨gv, 0, none⟩ = some (.slice (some ⟨g, 0, none⟩) n c)) (hbk : b < w.heap.size) (hk : w.cell? ⟨b, 0, none⟩ = some kv) :
    Calls Try.prog 35 #[deedV 1 82 b, .slice (some ⟨gv, 0, none⟩) 1 1] w fun e w' => PPost w r e w' := by
  have HR := hide hr
  have HD := hide (fun w' (hb : Below w.heap.size w w') => datumOf_any l g c w' hl (ht.below hb))
  rw [hn] at HD
  unfold DPost at HD
  rw [hv] at HD
  have HT := hide htr
  clear ht hv hl hr hn htr
  unfold deedV
  have hf := fn_nil 82 b
  obtain ⟨iD, hDi, hDz, hDs, hDb⟩ := info_parts Try.infoDat
  go_enter Try.func35, Try.ntmps35
  go_wp2_with (at_make; refine wpList_make_full _ rfl _ _ 74 rfl w.heap.size 49 iD _ 1 Try.underlying74 hDi hDz hDs _ _ _ _ 1 rfl rfl rfl rfl (by rw [hDb]; omega) (by unfold maxLen; omega) (by simp; omega) ?_)
  intro w1 hown hgrow
  have HP := hide (PB.start hown hgrow)
  clear hown hgrow hf
  go_wp2_with fail
  go_loopw [29] (fun u wr => (u = .int .i64 0 ∧ PB w (.func (.func 82) #[] #[.pointer (some ⟨b, 0, none⟩)]) .nilIface wr) ∨ (u = .int .i64 1 ∧ ∃ xv, Leaf t.kind t.num xv ∧ PB w (.func (.func 82) #[] #[.pointer (some ⟨b, 0, none⟩)]) xv wr)) (fun u _ => 1 - (intOf u).toNat)
  case atStart => exact .inl ⟨rfl, HP.out⟩
  case round =>
    rcases hrel with ⟨rfl, p⟩ | ⟨rfl, xv, hx, p⟩
    · have cc := (p.B.cell (p := ⟨gv, 0, none⟩) hgv).trans hc
      go_wp2_with fail
      have p2 := p.below (W' := wr.alloc (.cells #[.slice (some ⟨g, 0, none⟩) n c] 25)) ((Below.refl _ _).alloc (Nat.le_refl _) _)
      refine (HD.out _ p2.B).mono ?_
      rintro e w2 ⟨hb2, v, rfl, hd⟩
      obtain ⟨t', x, ht', _, _, hD⟩ := hd trivial
      obtain rfl : t' = t := Option.some.inj (ht'.symm.trans HT.out)
      have p3 := p2.below hb2
      have hx := leaf_of hD
      have hvs := p3.v
      have hvf := p3.vf
      obtain ⟨y, u, rfl, hx2⟩ := hx
      have HX := hide hx2
      clear hb2 hD cc p p2 ht' hx2
      go_wp2
      go_roundw
      case rel => exact .inr ⟨rfl, _, ⟨y, u, rfl, HX.out⟩, p3.put _⟩
      case measure => simp [intOf]
    · have cv := p.v
      have cd := p.d
      have ck := (p.B.cell (p := ⟨b, 0, none⟩) hbk).trans hk
      have cr := p.r
      have fr := p.f
      have HC := hide (hcl _ (w.heap.size + 1 + 1) wr hx cv ck)
      obtain ⟨y, u, rfl, hx2⟩ := hx
      clear hx2 hcl
      go_wp2_with fail
      refine HC.out.mono ?_
      rintro e w2 ⟨rfl, rfl⟩
      go_wp2
      refine bodyPost_ret (v := .tuple #[.agg #[.slice none 0 0], .string (txt wType)]) (by simp [results, Try.results35, go_sem, cr, txt, wType]) rfl (ppost_no HR.out (p.set _))
set_option maxRecDepth 100000 in
set_option maxHeartbeats 1000000 in
theorem perform_wordR (r : List At × List UInt8) (b g c n gv : Nat) (kv : Value) (l : List At) (t : T) (w : World) (hr : r = ([], wRange)) (hcl : ∀ xv gg W, Leaf t.kind t.num xv → W.cell? ⟨gg, 0, none⟩ = some xv → W.cell? ⟨b, 0, none⟩ = some kv → Calls Try.prog 82 #[.slice (some ⟨gg, 0, none⟩) 1 1, .pointer (some ⟨b, 0, none⟩)] W fun e w' => e = .returned (.tuple #[.nilIface, .string ⟨#[114, 97, 110, 103, 101]⟩]) ∧ w' = W) (htr : treeOf l = some t) (hv : valid l = true) (hn : l.length = n) (hl : l.length ≤ 1048576) (ht : AtomsO w g 0 l) (hgv : gv < w.heap.size) (hc : w.cell? ⟨gv, 0, none⟩ = some (.slice (some ⟨g, 0, none⟩) n c)) (hbk : b < w.heap.size) (hk : w.cell? ⟨b, 0, none⟩ = some kv) :
    Calls Try.prog 35 #[deedV 1 82 b, .slice (some ⟨gv, 0, none⟩) 1 1] w fun e w' => PPost w r e w' := by
  have HR := hide hr
  have HD := hide (fun w' (hb : Below w.heap.size w w') => datumOf_any l g c w' hl (ht.below hb))
  rw [hn] at HD
  unfold DPost at HD
  rw [hv] at HD
  have HT := hide htr
  clear ht hv hl hr hn htr
  unfold deedV
  have hf := fn_nil 82 b
  obtain ⟨iD, hDi, hDz, hDs, hDb⟩ := info_parts Try.infoDat
  go_enter Try.func35, Try.ntmps35
  go_wp2_with (at_make; refine wpList_make_full _ rfl _ _ 74 rfl w.heap.size 49 iD _ 1 Try.underlying74 hDi hDz hDs _ _ _ _ 1 rfl rfl rfl rfl (by rw [hDb]; omega) (by unfold maxLen; omega) (by simp; omega) ?_)
  intro w1 hown hgrow
  have HP := hide (PB.start hown hgrow)
  clear hown hgrow hf
  go_wp2_with fail
  go_loopw [29] (fun u wr => (u = .int .i64 0 ∧ PB w (.func (.func 82) #[] #[.pointer (some ⟨b, 0, none⟩)]) .nilIface wr) ∨ (u = .int .i64 1 ∧ ∃ xv, Leaf t.kind t.num xv ∧ PB w (.func (.func 82) #[] #[.pointer (some ⟨b, 0, none⟩)]) xv wr)) (fun u _ => 1 - (intOf u).toNat)
  case atStart => exact .inl ⟨rfl, HP.out⟩
  case round =>
    rcases hrel with ⟨rfl, p⟩ | ⟨rfl, xv, hx, p⟩
    · have cc := (p.B.cell (p := ⟨gv, 0, none⟩) hgv).trans hc
      go_wp2_with fail
      have p2 := p.below (W' := wr.alloc (.cells #[.slice (some ⟨g, 0, none⟩) n c] 25)) ((Below.refl _ _).alloc (Nat.le_refl _) _)
      refine (HD.out _ p2.B).mono ?_
      rintro e w2 ⟨hb2, v, rfl, hd⟩
      obtain ⟨t', x, ht', _, _, hD⟩ := hd trivial
      obtain rfl : t' = t := Option.some.inj (ht'.symm.trans HT.out)
      have p3 := p2.below hb2
      have hx := leaf_of hD
      have hvs := p3.v
      have hvf := p3.vf
      obtain ⟨y, u, rfl, hx2⟩ := hx
      have HX := hide hx2
      clear hb2 hD cc p p2 ht' hx2
      go_wp2
      go_roundw
      case rel => exact .inr ⟨rfl, _, ⟨y, u, rfl, HX.out⟩, p3.put _⟩
      case measure => simp [intOf]
    · have cv := p.v
      have cd := p.d
      have ck := (p.B.cell (p := ⟨b, 0, none⟩) hbk).trans hk
      have cr := p.r
      have fr := p.f
      have HC := hide (hcl _ (w.heap.size + 1 + 1) wr hx cv ck)
      obtain ⟨y, u, rfl, hx2⟩ := hx
      clear hx2 hcl
      go_wp2_with fail
      refine HC.out.mono ?_
      rintro e w2 ⟨rfl, rfl⟩
      go_wp2
      refine bodyPost_ret (v := .tuple #[.agg #[.slice none 0 0], .string (txt wRange)]) (by simp [results, Try.results35, go_sem, cr, txt, wRange]) rfl (ppost_no HR.out (p.set _))
set_option maxRecDepth 100000 in
set_option maxHeartbeats 1000000 in
theorem perform_madeI (r : List At × List UInt8) (b g c n gv : Nat) (kv : Value) (l : List At) (t : T) (w : World) (a : At) (dv : Value) (hr : r = ([a], [])) (HA : Hid (∀ w, Calls Try.prog 80 #[dv, .slice none 0 0] w fun e w' => ∃ g c, e = .returned (.slice (some ⟨g, 0, none⟩) 1 c) ∧ w'.ownsRow w.heap.size 55 4 (.slice (some ⟨g, 0, none⟩) 1 c) 1 [.int .i64 a.kind, .int .i64 a.n, .string a.text, .int .i64 a.kids] ∧ Below w.heap.size w w')) (hcl : ∀ xv gg W, Leaf t.kind t.num xv → W.cell? ⟨gg, 0, none⟩ = some xv → W.cell? ⟨b, 0, none⟩ = some kv → Calls Try.prog 82 #[.slice (some ⟨gg, 0, none⟩) 1 1, .pointer (some ⟨b, 0, none⟩)] W fun e w' => e = .returned (.tuple #[dv, .string ⟨#[]⟩]) ∧ w' = W) (htr : treeOf l = some t) (hv : valid l = true) (hn : l.length = n) (hl : l.length ≤ 1048576) (ht : AtomsO w g 0 l) (hgv : gv < w.heap.size) (hc : w.cell? ⟨gv, 0, none⟩ = some (.slice (some ⟨g, 0, none⟩) n c)) (hbk : b < w.heap.size) (hk : w.cell? ⟨b, 0, none⟩ = some kv) :
    Calls Try.prog 35 #[deedV 1 82 b, .slice (some ⟨gv, 0, none⟩) 1 1] w fun e w' => PPost w r e w' := by
  have HR := hide hr
  have HD := hide (fun w' (hb : Below w.heap.size w w') => datumOf_any l g c w' hl (ht.below hb))
  rw [hn] at HD
  unfold DPost at HD
  rw [hv] at HD
  have HT := hide htr
  clear ht hv hl hr hn htr
  unfold deedV
  have hf := fn_nil 82 b
  obtain ⟨iD, hDi, hDz, hDs, hDb⟩ := info_parts Try.infoDat
  go_enter Try.func35, Try.ntmps35
  go_wp2_with (at_make; refine wpList_make_full _ rfl _ _ 74 rfl w.heap.size 49 iD _ 1 Try.underlying74 hDi hDz hDs _ _ _ _ 1 rfl rfl rfl rfl (by rw [hDb]; omega) (by unfold maxLen; omega) (by simp; omega) ?_)
  intro w1 hown hgrow
  have HP := hide (PB.start hown hgrow)
  clear hown hgrow hf
  go_wp2_with fail
  go_loopw [29] (fun u wr => (u = .int .i64 0 ∧ PB w (.func (.func 82) #[] #[.pointer (some ⟨b, 0, none⟩)]) .nilIface wr) ∨ (u = .int .i64 1 ∧ ∃ xv, Leaf t.kind t.num xv ∧ PB w (.func (.func 82) #[] #[.pointer (some ⟨b, 0, none⟩)]) xv wr)) (fun u _ => 1 - (intOf u).toNat)
  case atStart => exact .inl ⟨rfl, HP.out⟩
  case round =>
    rcases hrel with ⟨rfl, p⟩ | ⟨rfl, xv, hx, p⟩
    · have cc := (p.B.cell (p := ⟨gv, 0, none⟩) hgv).trans hc
      go_wp2_with fail
      have p2 := p.below (W' := wr.alloc (.cells #[.slice (some ⟨g, 0, none⟩) n c] 25)) ((Below.refl _ _).alloc (Nat.le_refl _) _)
      refine (HD.out _ p2.B).mono ?_
      rintro e w2 ⟨hb2, v, rfl, hd⟩
      obtain ⟨t', x, ht', _, _, hD⟩ := hd trivial
      obtain rfl : t' = t := Option.some.inj (ht'.symm.trans HT.out)
      have p3 := p2.below hb2
      have hx := leaf_of hD
      have hvs := p3.v
      have hvf := p3.vf
      obtain ⟨y, u, rfl, hx2⟩ := hx
      have HX := hide hx2
      clear hb2 hD cc p p2 ht' hx2
      go_wp2
      go_roundw
      case rel => exact .inr ⟨rfl, _, ⟨y, u, rfl, HX.out⟩, p3.put _⟩
      case measure => simp [intOf]
    · have cv := p.v
      have cd := p.d
      have ck := (p.B.cell (p := ⟨b, 0, none⟩) hbk).trans hk
      have cr := p.r
      have fr := p.f
      have HC := hide (hcl _ (w.heap.size + 1 + 1) wr hx cv ck)
      obtain ⟨y, u, rfl, hx2⟩ := hx
      clear hx2 hcl
      go_wp2_with fail
      refine HC.out.mono ?_
      rintro e w2 ⟨rfl, rfl⟩
      go_wp2_with fail
      refine (valueOf_one dv a _ HA).mono ?_
      rintro e w3 ⟨v3, rfl, ⟨g3, c3, rfl, ho3⟩, hb3⟩
      have p3 := p.below hb3
      have hg3 := (ho3.lt g3 rfl).1
      have hz := p.z
      have cr3 := p3.r
      have fr3 := p3.f
      have HO := hide ho3
      clear hb3 ho3 cr fr
      go_wp2
      refine bodyPost_ret (v := .tuple #[.agg #[.slice (some ⟨g3, 0, none⟩) 1 c3], .string ⟨#[]⟩]) (by simp [results, Try.results35, go_sem, cr3]) rfl ?_
      rw [HR.out]
      exact ⟨_, rfl, .inr ⟨a, rfl, g3, c3, rfl, row_mono (row_same HO.out (Below.heap_setCell _ _ _ _ (show g3 ≠ w.heap.size + 1 by omega))) (by have := p.B.size; omega)⟩, p3.set _⟩
end Go.Proofs.Ytfpdoafpimaoaaa.Vl
