/- Rp, Ra. -/
import Derived.Test.YtmklgiononbmmaaDoorKj
import Derived.Test.YtmklgiononbmmaaDoorNa
import Derived.Test.YtmklgiononbmmaaDoorJp
import Derived.Deep.CutRange
namespace Go.Proofs.YtmklgiononbmmaaDoor

def Tr.renIf (at_ : Nat) (b : List Int) (nm : ByteArray) (i : Nat) (d : Tr.Nd) : Tr.Nd := if i = at_ ∨ b[i]?.getD 0 = (at_ : Int) then { d with text := nm } else d
def Tr.renGo (at_ : Nat) (b : List Int) (nm : ByteArray) : List Tr.Nd → Nat → List Tr.Nd
  | [], _ => []
  | d :: r, i => Tr.renIf at_ b nm i d :: Tr.renGo at_ b nm r (i + 1)
theorem Tr.renGo_len (at_ : Nat) (b : List Int) (nm : ByteArray) (l : List Tr.Nd) (i : Nat) : (Tr.renGo at_ b nm l i).length = l.length := by
  induction l generalizing i with
  | nil => rfl
  | cons d r ih => rw [Tr.renGo, List.length_cons, List.length_cons, ih]
theorem Tr.renGo_snoc (at_ : Nat) (b : List Int) (nm : ByteArray) (a : List Tr.Nd) (d : Tr.Nd) (k : Nat) : Tr.renGo at_ b nm (a ++ [d]) k = Tr.renGo at_ b nm a k ++ [Tr.renIf at_ b nm (k + a.length) d] := by
  induction a generalizing k with
  | nil => simp [Tr.renGo]
  | cons x r ih => rw [List.cons_append, Tr.renGo, ih, Tr.renGo, List.cons_append, List.length_cons, show k + 1 + r.length = k + (r.length + 1) from by omega]
def Tr.newOk (ns : List Tr.Nd) (nm : ByteArray) : Bool := Tr.nameOk nm && !decide (nm.data.toList ∈ Tr.builts) && !ns.any (fun d => decide (d.text = nm))
def Tr.placeOk (ns : List Tr.Nd) (at_ : Int) : Bool := decide (0 ≤ at_) && decide (at_ < ns.length) && Tr.isLocal (Tr.kindOf ns at_.toNat)
def Tr.renameOf (ns : List Tr.Nd) (at_ : Int) (nm : ByteArray) : List Tr.Nd × Int :=
  if Tr.fitsOf ns = false then ([], 1)
  else if Tr.placeOk ns at_ = false then ([], 2)
  else if Tr.newOk ns nm = false then ([], 3)
  else (Tr.renGo at_.toNat (Tr.bindsOf ns) nm ns 0, 0)
end Go.Proofs.YtmklgiononbmmaaDoor
namespace Go.Proofs.YtmklgiononbmmaaDoor
open Go.RowKit

/-- Nodes in a row of one's own from a block on, or none. -/
def RowN (w : World) (B : Nat) (v : Value) (l : List Tr.Nd) : Prop := (v = .slice none 0 0 ∧ l = []) ∨ ∃ g c, v = .slice (some ⟨g, 0, none⟩) l.length c ∧ B ≤ g ∧ w.ownsRow 0 61 5 v l.length (Tr.cellsOf l)
theorem two_box (w : World) (t : Value) : ((w.alloc (.cells #[t] 31)).alloc (.cells #[.slice none 0 0] 31)).cell? ⟨w.heap.size, 0, none⟩ = some t ∧ ((w.alloc (.cells #[t] 31)).alloc (.cells #[.slice none 0 0] 31)).cell? ⟨w.heap.size + 1, 0, none⟩ = some (.slice none 0 0) ∧ ((w.alloc (.cells #[t] 31)).alloc (.cells #[.slice none 0 0] 31)).frozen? ⟨w.heap.size + 1, 0, none⟩ = false := by
  have h := cell_new (w.alloc (.cells #[t] 31)) (.slice none 0 0) 31
  rw [World.size_alloc] at h
  have hb := (Below.refl (w.heap.size + 1) (w.alloc (.cells #[t] 31))).alloc (by simp) (.cells #[.slice none 0 0] 31)
  exact ⟨(hb.cell (p := ⟨w.heap.size, 0, none⟩) (Nat.lt_succ_self _)).trans (by simp), h.1, h.2⟩

theorem row_sameV' {w w' : World} {base size : Nat} {e : TypeId} {v : Value} {n : Nat} {xs : List Value} (h : w.ownsRow base e size v n xs) (hb : ∀ g, base ≤ g → g < w.heap.size → w'.heap[g]? = w.heap[g]?) : w'.ownsRow base e size v n xs := by
  refine ⟨h.1, ?_⟩
  rcases h.2 with h1 | ⟨g', cap', cur, hv, h2, h3, h4⟩
  · exact .inl h1
  · exact .inr ⟨g', cap', cur, hv, h2, (hb g' h2 (Array.getElem?_eq_some_iff.1 h3).1).trans h3, h4⟩
/-- While the nodes are gone through. -/
structure RnI (ns : List Tr.Nd) (tg tc a : Nat) (b : List Int) (nm : ByteArray) (gs : Nat) (w : World) (q i : Nat) (v9 : Value) (wr : World) : Prop where
  B : Below w.heap.size w wr
  z9 : q < wr.heap.size
  c9 : wr.cell? ⟨q, 0, none⟩ = some v9
  f9 : wr.frozen? ⟨q, 0, none⟩ = false
  x0 : wr.cell? ⟨w.heap.size, 0, none⟩ = some (.slice (some ⟨tg, 0, none⟩) ns.length tc)
  x1 : wr.cell? ⟨w.heap.size + 1, 0, none⟩ = some (.slice none 0 0)
  x2 : wr.frozen? ⟨w.heap.size + 1, 0, none⟩ = false
  bs : ∀ j (h : j < b.length), wr.cell? ⟨gs, j, none⟩ = some (.int .i64 b[j])
  row : wr.ownsRow (q + 1) 61 5 v9 i (Tr.cellsOf (Tr.renGo a b nm (ns.take i) 0))
  no : ∀ d ∈ ns.take i, d.text ≠ nm
def Tr.Ln (G : Nat → List Tr.Kn → Tr.St → Tr.St) : Prop := ∀ k kn s, (G k kn s).binds.length = s.binds.length
theorem Tr.Ln.fold {G : Nat → List Tr.Kn → Tr.St → Tr.St} (h : Tr.Ln G) (kn : List Tr.Kn) (ls : List Nat) (s : Tr.St) : (ls.foldl (fun s y => G y kn s) s).binds.length = s.binds.length := by
  induction ls generalizing s with
  | nil => rfl
  | cons x r ih => rw [List.foldl_cons, ih, h]
theorem Tr.Ln.dup (ns : List Tr.Nd) (p : Nat) (seen : List Nat) (s : Tr.St) : (Tr.dupS ns p seen s).binds.length = s.binds.length := by
  rw [Tr.dupS_if]; split
  · rw [Tr.faultS_binds]
  · rfl
theorem Tr.Ln.par {G : Nat → List Tr.Kn → Tr.St → Tr.St} (h : Tr.Ln G) (ns : List Tr.Nd) (ks : List (List Nat)) (p : Nat) (seen : List Nat) (kn : List Tr.Kn) (df : Bool) (s : Tr.St) : (Tr.parS G ns ks p seen kn df s).binds.length = s.binds.length := by
  unfold Tr.parS
  cases Tr.kidsOf ks p with
  | nil =>
    simp only
    split
    · rw [Tr.faultS_binds, Tr.Ln.dup]
    · exact Tr.Ln.dup _ _ _ _
  | cons c r => simp only; rw [h, Tr.Ln.dup]
theorem Tr.Ln.fn {G : Nat → List Tr.Kn → Tr.St → Tr.St} (h : Tr.Ln G) (ns : List Tr.Nd) (ks : List (List Nat)) : ∀ (ls seen : List Nat) (kn : List Tr.Kn) (df : Bool) (s : Tr.St), (Tr.fnS G ns ks ls seen kn df s).binds.length = s.binds.length
  | [], _, _, _, _ => rfl
  | [x], _, _, _, _ => h x _ _
  | p :: q :: r, seen, kn, df, s => by rw [Tr.fnS, Tr.Ln.fn h ns ks (q :: r), h.par]
theorem Tr.Ln.go (ns : List Tr.Nd) (ks : List (List Nat)) (f : Nat) : Tr.Ln (Tr.go1 ns ks f) := by
  induction f with
  | zero => intro _ _ _; rfl
  | succ f ih =>
    intro k kn s
    rw [Tr.go1]
    split
    · unfold Tr.useS
      cases Tr.lookK (Tr.textOf ns k) kn with
      | some a => simp
      | none => simp only; split <;> simp [Tr.faultS_binds]
    · split
      · rfl
      · split
        · exact ih.fn ns ks _ _ _ _ _
        · split
          · unfold Tr.letS
            cases Tr.kidsOf ks k with
            | nil => rfl
            | cons x r => simp only; rw [ih.fold, ih]
          · exact ih.fold _ _ _
theorem Tr.Ln.mk (ns : List Tr.Nd) : ∀ (ms : List Nat) (kn : List Tr.Kn) (s : Tr.St), (Tr.mkS ns ms kn s).2.binds.length = s.binds.length
  | [], _, _ => rfl
  | x :: r, kn, s => by
    rw [Tr.mkS, Tr.Ln.mk ns r, Tr.dupK_if]
    split
    · rw [Tr.faultS_binds]
    · rfl
theorem Tr.bindsOf_len {ns : List Tr.Nd} (hf : Tr.fitsOf ns = true) : (Tr.bindsOf ns).length = ns.length := by
  unfold Tr.bindsOf
  rw [if_pos hf]
  unfold Tr.lookS
  rw [Tr.Ln.go, Tr.Ln.mk]
  simp [Tr.st0]
theorem cells_lit (W : World) (cs : List Value) (t : TypeId) : ∀ (j : Nat) (u : Value), cs[j]? = some u → (W.alloc (.cells cs.toArray t)).cell? ((⟨W.heap.size, 0, none⟩ : Addr).add j) = some u := by
  intro j u hu
  rw [add_plain, Nat.zero_add, World.cell?, heap_alloc_new']
  simpa using hu
theorem Tr.nd_one (d : Tr.Nd) : ∀ u ∈ d.cells, u.oneCell' = true := by
  intro u hu
  simp only [Tr.Nd.cells, List.mem_cons, List.not_mem_nil, or_false] at hu
  rcases hu with rfl | rfl | rfl | rfl | rfl <;> rfl
theorem row_pos {w : World} {b size : Nat} {e : TypeId} {v : Value} {n : Nat} {xs : List Value} (h : w.ownsRow b e size v n xs) (hs : 0 < n * size) : ∃ g c, v = .slice (some ⟨g, 0, none⟩) n c := by
  rcases h.2 with ⟨_, h2⟩ | ⟨g, c, _, h2, _⟩
  · rw [h2] at hs; simp at hs
  · exact ⟨g, c, h2⟩
theorem RnI.next {ns : List Tr.Nd} {tg tc a : Nat} {b : List Int} {nm : ByteArray} {gs : Nat} {w : World} {q i : Nat} {v9 v10 : Value} {wr w5 : World} {o1 o2 : Obj} {d : Tr.Nd} (h : RnI ns tg tc a b nm gs w q i v9 wr) (hlt : i < ns.length) (hd : d = ns[i]) (hne : ns[i].text ≠ nm) (hgs : gs < q) (hq : w.heap.size + 1 < q)
    (hown : w5.ownsRow (q + 1) 61 5 v10 (i + 1) (Tr.cellsOf (Tr.renGo a b nm (ns.take i) 0) ++ (Tr.renIf a b nm i d).cells)) (hg : ((wr.alloc o1).alloc o2).grownBy w5 v9.ownBlock) :
    RnI ns tg tc a b nm gs w q (i + 1) v10 (w5.setCell ⟨q, 0, none⟩ v10) := by
  have hb : ∀ x, x < q + 1 → w5.heap[x]? = wr.heap[x]? := by
    intro x hx
    have hz := h.z9
    have h2 : ((wr.alloc o1).alloc o2).heap[x]? = wr.heap[x]? := (((Below.refl wr.heap.size wr).alloc (Nat.le_refl _) o1).alloc (by simp) o2).block x (by omega)
    refine (hg.block x (by simp; omega) (fun e => ?_)).trans h2
    have := (h.row.lt x e.symm).1
    omega
  have hc : ∀ x y, x < q → (w5.setCell ⟨q, 0, none⟩ v10).cell? ⟨x, y, none⟩ = wr.cell? ⟨x, y, none⟩ := fun x y hx => (World.cell?_of_block (a := ⟨x, y, none⟩) ((Below.heap_setCell _ _ _ _ (show x ≠ q by omega)).trans (hb x (by omega))))
  have hf : ∀ x y, x < q → (w5.setCell ⟨q, 0, none⟩ v10).frozen? ⟨x, y, none⟩ = wr.frozen? ⟨x, y, none⟩ := fun x y hx => (World.frozen?_of_block (a := ⟨x, y, none⟩) ((Below.heap_setCell _ _ _ _ (show x ≠ q by omega)).trans (hb x (by omega))))
  have hz9 := h.z9
  have hs5 : wr.heap.size ≤ w5.heap.size := by have := hg.size; simp at this; omega
  have hB5 : Below w.heap.size w w5 := ((h.B.alloc h.B.size o1).alloc (by have := h.B.size; simp; omega) o2).grown hg (by have := h.B.size; simp; omega) (fun x e => by have := (h.row.lt x e).1; omega)
  have hc9 := (World.cell?_of_block (a := ⟨q, 0, none⟩) (hb q (by omega))).trans h.c9
  have hf9 := (World.frozen?_of_block (a := ⟨q, 0, none⟩) (hb q (by omega))).trans h.f9
  have htk : Tr.renGo a b nm (ns.take (i + 1)) 0 = Tr.renGo a b nm (ns.take i) 0 ++ [Tr.renIf a b nm i d] := by
    rw [List.take_succ_eq_append_getElem hlt, Tr.renGo_snoc, List.length_take, Nat.min_eq_left (by omega), Nat.zero_add, hd]
  refine ⟨hB5.setCell (p := ⟨q, 0, none⟩) (by simp; omega) _, by rw [size_set5]; omega, ?_, ?_, (hc _ _ (by omega)).trans h.x0, (hc _ _ (by omega)).trans h.x1, (hf _ _ (by omega)).trans h.x2, fun j hj => (hc _ _ hgs).trans (h.bs j hj), ?_, ?_⟩
  · exact World.cell?_setCell_same _ _ _ hc9
  · rw [World.frozen?_setCell]; exact hf9
  · rw [htk, show Tr.cellsOf (Tr.renGo a b nm (ns.take i) 0 ++ [Tr.renIf a b nm i d]) = Tr.cellsOf (Tr.renGo a b nm (ns.take i) 0) ++ (Tr.renIf a b nm i d).cells from by unfold Tr.cellsOf; rw [List.flatMap_append]; simp]
    exact row_sameV' hown (fun g hg' hl => Below.heap_setCell _ _ _ _ (show g ≠ q by omega))
  · intro x hx
    rw [List.take_succ_eq_append_getElem hlt, List.mem_append] at hx
    rcases hx with hx | hx
    · exact h.no x hx
    · have : x = ns[i] := by simpa using hx
      rw [this]; exact hne

set_option maxRecDepth 100000 in
set_option maxHeartbeats 1000000 in
theorem rename_any (ns : List Tr.Nd) (tg tc : Nat) (at_ : Int) (nm : ByteArray) (w : World) (hn : ns.length ≤ 1048576) (ht : NodesAt w tg ns) :
    Calls Tryd.prog 19 #[.agg #[.slice (some ⟨tg, 0, none⟩) ns.length tc], .int .i64 at_, .string nm] w fun e w' => ∃ v, e = .returned (.tuple #[.agg #[v], .int .i64 (Tr.renameOf ns at_ nm).2]) ∧ RowN w' w.heap.size v (Tr.renameOf ns at_ nm).1 ∧ Below w.heap.size w w' := by
  obtain ⟨iN, hN, hNz, hNs, hNb⟩ := info_parts Tryd.infoNd
  have r2 : Below w.heap.size w ((w.alloc (.cells #[.slice (some ⟨tg, 0, none⟩) ns.length tc] 31)).alloc (.cells #[.slice none 0 0] 31)) := ((Below.refl _ _).alloc (Nat.le_refl _) _).alloc (by simp) _
  obtain ⟨x0, x1, x2⟩ := two_box w (.slice (some ⟨tg, 0, none⟩) ns.length tc)
  have HFT := hide (fits_any ns tg tc _ hn (ht.below r2))
  have HT := hide ht
  have HX0 := hide x0
  have HX1 := hide x1
  have HX2 := hide x2
  clear ht x0 x1 x2
  cases hf : Tr.fitsOf ns
  · have HFT2 := HFT.out
    rw [show ((Tr.checkOf ns).1 == 0) = false from hf] at HFT2
    replace HFT2 := hide HFT2
    have HR : Hid (Tr.renameOf ns at_ nm = ([], 1)) := hide (by unfold Tr.renameOf; rw [hf]; rfl)
    rw [HR.out]
    go_enter Tryd.func19, Tryd.ntmps19
    go_wp2_with fail
    refine HFT2.out.mono ?_
    rintro e w1 ⟨rfl, hb1⟩
    rw [World.size_alloc, World.size_alloc] at hb1
    have hB1 := r2.trans (hb1.mono (by omega))
    have y1 := (hb1.cell (p := ⟨w.heap.size + 1, 0, none⟩) (show w.heap.size + 1 < w.heap.size + 1 + 1 by omega)).trans HX1.out
    have y2 := (hb1.frozen (p := ⟨w.heap.size + 1, 0, none⟩) (show w.heap.size + 1 < w.heap.size + 1 + 1 by omega)).trans HX2.out
    clear hb1
    go_wp2
    refine bodyPost_ret (v := .tuple #[.agg #[.slice none 0 0], .int .i64 1]) (by simp [results, Tryd.results19, go_sem, y1]) rfl ⟨_, rfl, .inl ⟨rfl, rfl⟩, ?_⟩
    exact hB1.setCell (p := ⟨w.heap.size + 1, 0, none⟩) (by simp) _
  · have HFT2 := HFT.out
    rw [show ((Tr.checkOf ns).1 == 0) = true from hf] at HFT2
    replace HFT2 := hide HFT2
    have hn1 := (Tr.valid_facts (Tr.fits_valid hf)).1
    have hn5 := (Tr.valid_facts (Tr.fits_valid hf)).2.1
    have HIN := hide (fun W => in_any at_ 0 ((ns.length : Int) - 1) W)
    have HIR := hide (show Tr.inr at_ 0 ((ns.length : Int) - 1) = decide (0 ≤ at_ ∧ at_ ≤ (ns.length : Int) - 1) from rfl)
    go_enter Tryd.func19, Tryd.ntmps19
    go_wp2_with fail
    refine HFT2.out.mono ?_
    rintro e w1 ⟨rfl, hb1⟩
    rw [World.size_alloc, World.size_alloc] at hb1
    have hB1 := r2.trans (hb1.mono (by omega))
    have hz1 : w.heap.size + 1 + 1 ≤ w1.heap.size := by have := hb1.size; simpa using this
    have y0 := (hb1.cell (p := ⟨w.heap.size, 0, none⟩) (show w.heap.size < w.heap.size + 1 + 1 by omega)).trans HX0.out
    have y1 := (hb1.cell (p := ⟨w.heap.size + 1, 0, none⟩) (show w.heap.size + 1 < w.heap.size + 1 + 1 by omega)).trans HX1.out
    have y2 := (hb1.frozen (p := ⟨w.heap.size + 1, 0, none⟩) (show w.heap.size + 1 < w.heap.size + 1 + 1 by omega)).trans HX2.out
    clear hb1 HFT HFT2
    by_cases hr : 0 ≤ at_ ∧ at_ < ns.length
    · obtain ⟨a, rfl⟩ : ∃ a : Nat, at_ = a := ⟨at_.toNat, by omega⟩
      have ha : a < ns.length := by omega
      have HIN2 := HIN.out w1
      rw [show Tr.inr (a : Int) 0 ((ns.length : Int) - 1) = true from by rw [HIR.out]; exact decide_eq_true ⟨by omega, by omega⟩] at HIN2
      replace HIN2 := hide HIN2
      obtain ⟨k0, _⟩ := (HT.out.below hB1).2 a ha
      have HPL : Hid (Tr.placeOk ns (a : Int) = Tr.isLocal ns[a].kind) := hide (by unfold Tr.placeOk; rw [Int.toNat_natCast, Tr.kindOf_at ha, decide_eq_true (by omega : (0 : Int) ≤ a), decide_eq_true (by omega : (a : Int) < ns.length)]; rfl)
      have HRN := hide (show Tr.renameOf ns (a : Int) nm = (if Tr.placeOk ns (a : Int) = false then ([], 2) else if Tr.newOk ns nm = false then ([], 3) else (Tr.renGo a (Tr.bindsOf ns) nm ns 0, 0)) by unfold Tr.renameOf; rw [hf]; rfl)
      by_cases hloc : ns[a].kind = 14 ∨ ns[a].kind = 16
      · have HR1 : Hid (Tr.renameOf ns (a : Int) nm = if Tr.newOk ns nm = false then ([], 3) else (Tr.renGo a (Tr.bindsOf ns) nm ns 0, 0)) := hide (by rw [HRN.out, HPL.out, if_neg (by rcases hloc with e | e <;> (rw [e]; decide))])
        clear HRN HPL
        have HNM := hide (nameOk_any nm w1)
        have HNW := hide (show Tr.newOk ns nm = (Tr.nameOk nm && !decide (nm.data.toList ∈ Tr.builts) && !ns.any (fun d => decide (d.text = nm))) from rfl)
        have hkl : (ns[a].kind == 14) = true ∨ (ns[a].kind == 14) = false ∧ (ns[a].kind == 16) = true := by
          rcases hloc with e | e <;> simp [e]
        have hk1 : (ns[a].kind != 14) = !(ns[a].kind == 14) := rfl
        have hk2 : (ns[a].kind != 16) = !(ns[a].kind == 16) := rfl
        generalize ns[a].kind = kd at *
        go_upto_region 3 with fail
        go_cut [40] from 16 to 40 (fun v40 wx => v40 = .bool false ∧ wx = w1)
        case first =>
          rcases hloc with rfl | rfl
          all_goals
            go_wp2_with fail
            refine HIN2.out.mono ?_
            rintro e w' ⟨rfl, rfl⟩
            go_wp2_with fail
            go_meet
            case rel => exact ⟨rfl, rfl⟩
        case rest =>
          obtain ⟨rfl, hwc⟩ := hcut
          rw [hwc]
          clear hkl hk1 hk2 hloc k0 HIN2 HIN HIR hwc
          cases hnk : Tr.nameOk nm
          · have HR2 : Hid (Tr.renameOf ns (a : Int) nm = ([], 3)) := hide (by rw [HR1.out, HNW.out, hnk]; rfl)
            rw [hnk] at HNM
            go_wp2_with fail
            refine HNM.out.mono ?_
            rintro e w2 ⟨rfl, hb2⟩
            have hB2 := hB1.trans (hb2.mono hB1.size)
            have z1 := (hb2.cell (p := ⟨w.heap.size + 1, 0, none⟩) (show w.heap.size + 1 < w1.heap.size by omega)).trans y1
            have z2 := (hb2.frozen (p := ⟨w.heap.size + 1, 0, none⟩) (show w.heap.size + 1 < w1.heap.size by omega)).trans y2
            clear hb2
            go_wp2
            refine bodyPost_ret (v := .tuple #[.agg #[.slice none 0 0], .int .i64 3]) (by simp [results, Tryd.results19, go_sem, z1]) rfl ⟨_, by rw [HR2.out], by rw [HR2.out]; exact .inl ⟨rfl, rfl⟩, ?_⟩
            exact hB2.setCell (p := ⟨w.heap.size + 1, 0, none⟩) (by simp) _
          · rw [hnk] at HNM
            go_wp2_with fail
            refine HNM.out.mono ?_
            rintro e w2 ⟨rfl, hb2⟩
            have hB2 := hB1.trans (hb2.mono hB1.size)
            have hz2 : w.heap.size + 1 + 1 ≤ w2.heap.size := Nat.le_trans hz1 hb2.size
            have z0 := (hb2.cell (p := ⟨w.heap.size, 0, none⟩) (show w.heap.size < w1.heap.size by omega)).trans y0
            have z1 := (hb2.cell (p := ⟨w.heap.size + 1, 0, none⟩) (show w.heap.size + 1 < w1.heap.size by omega)).trans y1
            have z2 := (hb2.frozen (p := ⟨w.heap.size + 1, 0, none⟩) (show w.heap.size + 1 < w1.heap.size by omega)).trans y2
            clear hb2 y0 y1 y2
            go_wp2_with fail
            refine (builts_any w2).mono ?_
            rintro e w3 ⟨rfl, hb3, hz3, hl3⟩
            have hB3 := hB2.trans (hb3.mono hB2.size)
            have u0 := (hb3.cell (p := ⟨w.heap.size, 0, none⟩) (show w.heap.size < w2.heap.size by omega)).trans z0
            have u1 := (hb3.cell (p := ⟨w.heap.size + 1, 0, none⟩) (show w.heap.size + 1 < w2.heap.size by omega)).trans z1
            have u2 := (hb3.frozen (p := ⟨w.heap.size + 1, 0, none⟩) (show w.heap.size + 1 < w2.heap.size by omega)).trans z2
            have HHB := hide (has_builts nm w3 w2.heap.size hl3)
            clear hb3 z0 z1 z2 hl3
            cases hbt : decide (nm.data.toList ∈ Tr.builts)
            · rw [hbt] at HHB
              go_wp2_with fail
              refine HHB.out.mono ?_
              rintro e w' ⟨rfl, hw'⟩
              rw [hw']
              clear hw'
              have HR2 : Hid (Tr.renameOf ns (a : Int) nm = if ns.any (fun d => decide (d.text = nm)) = true then ([], 3) else (Tr.renGo a (Tr.bindsOf ns) nm ns 0, 0)) := hide (by
                rw [HR1.out, HNW.out, hnk, hbt]
                cases ns.any (fun d => decide (d.text = nm)) <;> rfl)
              have HBS := hide (binds_any ns tg tc w3 hn (HT.out.below hB3))
              clear HHB HNM HNW HR1
              go_wp2_with fail
              refine HBS.out.mono ?_
              rintro e w4 ⟨gs, rfl, hgs, ho4, hb4⟩
              have hB4 := hB3.trans (hb4.mono hB3.size)
              have t0 := (hb4.cell (p := ⟨w.heap.size, 0, none⟩) (show w.heap.size < w3.heap.size by omega)).trans u0
              have t1 := (hb4.cell (p := ⟨w.heap.size + 1, 0, none⟩) (show w.heap.size + 1 < w3.heap.size by omega)).trans u1
              have t2 := (hb4.frozen (p := ⟨w.heap.size + 1, 0, none⟩) (show w.heap.size + 1 < w3.heap.size by omega)).trans u2
              have hz4 : w.heap.size + 1 + 1 ≤ w4.heap.size := by have := hb4.size; omega
              have HO4 := hide ho4
              have hgs4 := (ho4.lt gs rfl).2
              have hbl : (Tr.bindsOf ns).length = ns.length := Tr.bindsOf_len hf
              clear hb4 u0 u1 u2 HBS ho4
              generalize Tr.bindsOf ns = b at *
              have q4 : Below w4.heap.size w4 (w4.alloc (.cells #[.slice none 0 0] 31)) := (Below.refl _ _).alloc (Nat.le_refl _) _
              have hnw := cell_new w4 (.slice none 0 0) 31
              have HS0 : Hid (RnI ns tg tc a b nm gs w w4.heap.size 0 (.slice none 0 0) (w4.alloc (.cells #[.slice none 0 0] 31))) := hide ⟨hB4.trans (q4.mono hB4.size), by simp, hnw.1, hnw.2, (q4.cell (p := ⟨w.heap.size, 0, none⟩) (show w.heap.size < w4.heap.size by omega)).trans t0, (q4.cell (p := ⟨w.heap.size + 1, 0, none⟩) (show w.heap.size + 1 < w4.heap.size by omega)).trans t1, (q4.frozen (p := ⟨w.heap.size + 1, 0, none⟩) (show w.heap.size + 1 < w4.heap.size by omega)).trans t2, fun j hj => by
                rw [q4.cell (p := ⟨gs, j, none⟩) hgs4, HO4.out.cellAt j (by omega)]; simp [hj, vi], World.ownsRow_nil _ _ _ _, fun d hd => by cases hd⟩
              clear t0 t1 t2 HO4 q4 hnw
              go_wp2
              go_loopw [10] (fun t wr => ∃ (i : Nat) (v9 : Value), i ≤ ns.length ∧ t = .int .i64 i ∧ RnI ns tg tc a b nm gs w w4.heap.size i v9 wr) (fun t _ => ns.length - (intOf t).toNat)
              case atStart => exact ⟨0, _, Nat.zero_le _, rfl, HS0.out⟩
              case round =>
                obtain ⟨i, v9, hi, rfl, hR⟩ := hrel
                have HRR := hide hR
                have s0 := hR.x0
                have s1 := hR.x1
                have s2 := hR.x2
                have s9 := hR.c9
                have f9 := hR.f9
                have hB := hR.B
                have hz9 := hR.z9
                have hbj := hR.bs
                clear hR
                by_cases hlt : i < ns.length
                · obtain ⟨n0, n1, n2, n3, n4⟩ := (HT.out.below hB).2 i hlt
                  have hbi := hbj i (by omega)
                  have hbg : b[i]?.getD 0 = b[i]'(by omega) := by rw [List.getElem?_eq_getElem (by omega)]; rfl
                  have HRI := hide (show ∀ d, Tr.renIf a b nm i d = if i = a ∨ b[i]'(by omega) = (a : Int) then { d with text := nm } else d from fun d => by unfold Tr.renIf; rw [hbg])
                  have hqz : w.heap.size + 1 < w4.heap.size := by omega
                  have hba := ba_eq ns[i].text nm
                  have HMEM := hide (List.getElem_mem hlt)
                  have HNX := hide (fun (d : Tr.Nd) (hd : d = ns[i]) (hne : ns[i].text ≠ nm) (v10 : Value) (w5 : World) (o1 o2 : Obj) => RnI.next (v10 := v10) (w5 := w5) (o1 := o1) (o2 := o2) HRR.out hlt hd hne hgs4 hqz)
                  clear hbj hbg
                  cases hq : (ns[i].text.toList == nm.toList)
                  · have hne : ns[i].text ≠ nm := fun e => by rw [hba.2 e] at hq; cases hq
                    have HNX2 := hide (fun v10 w5 o1 o2 => HNX.out ns[i] rfl hne v10 w5 o1 o2)
                    clear HNX hba HMEM hne
                    generalize b[i]'(by omega) = bi at *
                    generalize ns[i] = d at *
                    have hbi' : (wr.alloc (.cells #[.int .i64 d.kind, .int .i64 d.op, .int .i64 d.n, .string d.text, .int .i64 d.kids] 61)).cell? ⟨gs, i, none⟩ = some (.int .i64 bi) := (((Below.refl wr.heap.size wr).alloc (Nat.le_refl _) _).cell (p := ⟨gs, i, none⟩) (show gs < wr.heap.size by omega)).trans hbi
                    by_cases hia : i = a
                    · subst hia
                      have HD' : Hid (Tr.renIf i b nm i d = { d with text := nm }) := hide (by rw [HRI.out, if_pos (.inl rfl)])
                      rw [HD'.out] at HNX2
                      go_wp2_with (at_builtin; refine wpList_append_own_at _ rfl _ _ 29 rfl (w4.heap.size + 1) 61 iN _ 5 48 Tryd.underlying29 hN hNz hNs hNb rfl (by decide) v9 i _ rfl ((HRR.out.row.alloc _).alloc _) ⟨wr.heap.size + 1, 0, none⟩ 1 1 ({ d with text := nm } : Tr.Nd).cells rfl rfl (by have := cells_lit (wr.alloc (.cells #[.int .i64 d.kind, .int .i64 d.op, .int .i64 d.n, .string nm, .int .i64 d.kids] 61)) ({ d with text := nm } : Tr.Nd).cells 61; rw [World.size_alloc] at this; exact this) (Tr.nd_one _) (by unfold maxLen; omega) (by omega) (by simp; omega) ?_)
                      intro v10 w5 hown5 hgrow5 hnil5 hat5; obtain ⟨g10, c10, hv10⟩ := row_pos hown5 (by omega); subst hv10
                      have HNR := hide (HNX2.out _ w5 _ _ hown5 hgrow5)
                      have s95 : w5.cell? ⟨w4.heap.size, 0, none⟩ = some v9 := (World.cell?_of_block (hgrow5.block w4.heap.size (by simp; omega) (fun e => by have := (HRR.out.row.lt _ e.symm).1; omega))).trans ((((Below.refl wr.heap.size wr).alloc (Nat.le_refl _) _).alloc (by simp) _).cell (p := ⟨w4.heap.size, 0, none⟩) hz9 |>.trans s9)
                      have f95 : w5.frozen? ⟨w4.heap.size, 0, none⟩ = false := (World.frozen?_of_block (hgrow5.block w4.heap.size (by simp; omega) (fun e => by have := (HRR.out.row.lt _ e.symm).1; omega))).trans ((((Below.refl wr.heap.size wr).alloc (Nat.le_refl _) _).alloc (by simp) _).frozen (p := ⟨w4.heap.size, 0, none⟩) hz9 |>.trans f9)
                      clear hown5 hgrow5 hnil5 hat5
                      go_wp2
                      go_roundw
                      case rel => exact ⟨i + 1, _, by omega, by go_num, HNR.out⟩
                      case measure => simp [intOf]; omega
                    · have hiai : ((i : Int) == (a : Int)) = false := by simp; omega
                      cases hbb : (bi == (a : Int))
                      · have HD' : Hid (Tr.renIf a b nm i d = d) := hide (by rw [HRI.out, if_neg (by rintro (h | h); exact hia h; rw [h] at hbb; simp at hbb)])
                        rw [HD'.out] at HNX2
                        go_wp2_with (at_builtin; refine wpList_append_own_at _ rfl _ _ 29 rfl (w4.heap.size + 1) 61 iN _ 5 48 Tryd.underlying29 hN hNz hNs hNb rfl (by decide) v9 i _ rfl ((HRR.out.row.alloc _).alloc _) ⟨wr.heap.size + 1, 0, none⟩ 1 1 d.cells rfl rfl (by have := cells_lit (wr.alloc (.cells #[.int .i64 d.kind, .int .i64 d.op, .int .i64 d.n, .string d.text, .int .i64 d.kids] 61)) d.cells 61; rw [World.size_alloc] at this; exact this) (Tr.nd_one _) (by unfold maxLen; omega) (by omega) (by simp; omega) ?_)
                        intro v10 w5 hown5 hgrow5 hnil5 hat5; obtain ⟨g10, c10, hv10⟩ := row_pos hown5 (by omega); subst hv10
                        have HNR := hide (HNX2.out _ w5 _ _ hown5 hgrow5)
                        have s95 : w5.cell? ⟨w4.heap.size, 0, none⟩ = some v9 := (World.cell?_of_block (hgrow5.block w4.heap.size (by simp; omega) (fun e => by have := (HRR.out.row.lt _ e.symm).1; omega))).trans ((((Below.refl wr.heap.size wr).alloc (Nat.le_refl _) _).alloc (by simp) _).cell (p := ⟨w4.heap.size, 0, none⟩) hz9 |>.trans s9)
                        have f95 : w5.frozen? ⟨w4.heap.size, 0, none⟩ = false := (World.frozen?_of_block (hgrow5.block w4.heap.size (by simp; omega) (fun e => by have := (HRR.out.row.lt _ e.symm).1; omega))).trans ((((Below.refl wr.heap.size wr).alloc (Nat.le_refl _) _).alloc (by simp) _).frozen (p := ⟨w4.heap.size, 0, none⟩) hz9 |>.trans f9)
                        clear hown5 hgrow5 hnil5 hat5
                        go_wp2
                        go_roundw
                        case rel => exact ⟨i + 1, _, by omega, by go_num, HNR.out⟩
                        case measure => simp [intOf]; omega
                      · have HD' : Hid (Tr.renIf a b nm i d = { d with text := nm }) := hide (by rw [HRI.out, if_pos (.inr (by simpa using hbb))])
                        rw [HD'.out] at HNX2
                        go_wp2_with (at_builtin; refine wpList_append_own_at _ rfl _ _ 29 rfl (w4.heap.size + 1) 61 iN _ 5 48 Tryd.underlying29 hN hNz hNs hNb rfl (by decide) v9 i _ rfl ((HRR.out.row.alloc _).alloc _) ⟨wr.heap.size + 1, 0, none⟩ 1 1 ({ d with text := nm } : Tr.Nd).cells rfl rfl (by have := cells_lit (wr.alloc (.cells #[.int .i64 d.kind, .int .i64 d.op, .int .i64 d.n, .string nm, .int .i64 d.kids] 61)) ({ d with text := nm } : Tr.Nd).cells 61; rw [World.size_alloc] at this; exact this) (Tr.nd_one _) (by unfold maxLen; omega) (by omega) (by simp; omega) ?_)
                        intro v10 w5 hown5 hgrow5 hnil5 hat5; obtain ⟨g10, c10, hv10⟩ := row_pos hown5 (by omega); subst hv10
                        have HNR := hide (HNX2.out _ w5 _ _ hown5 hgrow5)
                        have s95 : w5.cell? ⟨w4.heap.size, 0, none⟩ = some v9 := (World.cell?_of_block (hgrow5.block w4.heap.size (by simp; omega) (fun e => by have := (HRR.out.row.lt _ e.symm).1; omega))).trans ((((Below.refl wr.heap.size wr).alloc (Nat.le_refl _) _).alloc (by simp) _).cell (p := ⟨w4.heap.size, 0, none⟩) hz9 |>.trans s9)
                        have f95 : w5.frozen? ⟨w4.heap.size, 0, none⟩ = false := (World.frozen?_of_block (hgrow5.block w4.heap.size (by simp; omega) (fun e => by have := (HRR.out.row.lt _ e.symm).1; omega))).trans ((((Below.refl wr.heap.size wr).alloc (Nat.le_refl _) _).alloc (by simp) _).frozen (p := ⟨w4.heap.size, 0, none⟩) hz9 |>.trans f9)
                        clear hown5 hgrow5 hnil5 hat5
                        go_wp2
                        go_roundw
                        case rel => exact ⟨i + 1, _, by omega, by go_num, HNR.out⟩
                        case measure => simp [intOf]; omega
                  · have HR3 : Hid (Tr.renameOf ns (a : Int) nm = ([], 3)) := hide (by
                      rw [HR2.out, if_pos]
                      rw [List.any_eq_true]
                      exact ⟨_, HMEM.out, decide_eq_true (hba.1 hq)⟩)
                    clear HNX HRI
                    generalize ns[i] = d at *
                    have s1' : (wr.alloc (.cells #[.int .i64 d.kind, .int .i64 d.op, .int .i64 d.n, .string d.text, .int .i64 d.kids] 61)).cell? ⟨w.heap.size + 1, 0, none⟩ = some (.slice none 0 0) := (((Below.refl wr.heap.size wr).alloc (Nat.le_refl _) _).cell (p := ⟨w.heap.size + 1, 0, none⟩) (show w.heap.size + 1 < wr.heap.size by omega)).trans s1
                    have s2' : (wr.alloc (.cells #[.int .i64 d.kind, .int .i64 d.op, .int .i64 d.n, .string d.text, .int .i64 d.kids] 61)).frozen? ⟨w.heap.size + 1, 0, none⟩ = false := (((Below.refl wr.heap.size wr).alloc (Nat.le_refl _) _).frozen (p := ⟨w.heap.size + 1, 0, none⟩) (show w.heap.size + 1 < wr.heap.size by omega)).trans s2
                    go_wp2
                    refine bodyPost_ret (v := .tuple #[.agg #[.slice none 0 0], .int .i64 3]) (by simp [results, Tryd.results19, go_sem, s1']) rfl ⟨_, by rw [HR3.out], by rw [HR3.out]; exact .inl ⟨rfl, rfl⟩, ?_⟩
                    exact (hB.alloc hB.size _).setCell (p := ⟨w.heap.size + 1, 0, none⟩) (by simp) _
                · obtain rfl : i = ns.length := by omega
                  have HR3 : Hid (Tr.renameOf ns (a : Int) nm = (Tr.renGo a b nm ns 0, 0)) := hide (by
                    rw [HR2.out, if_neg]
                    rw [List.any_eq_true]
                    rintro ⟨d, hd, he⟩
                    exact HRR.out.no d (by rw [List.take_length]; exact hd) (of_decide_eq_true he))
                  have HROW := HRR.out.row
                  rw [List.take_length] at HROW
                  obtain ⟨g9, c9, hv9⟩ := row_pos HROW (by omega)
                  subst hv9
                  have hlr : (Tr.renGo a b nm ns 0).length = ns.length := Tr.renGo_len _ _ _ _ _
                  have HRW : Hid (RowN (wr.setCell ⟨w.heap.size + 1, 0, none⟩ (.slice (some ⟨g9, 0, none⟩) ns.length c9)) w.heap.size (.slice (some ⟨g9, 0, none⟩) ns.length c9) (Tr.renGo a b nm ns 0)) := hide (by
                    have hg9 := (HROW.lt g9 rfl).1
                    refine .inr ⟨g9, c9, by rw [hlr], by omega, ?_⟩
                    rw [hlr]
                    exact row_mono (row_same HROW (Below.heap_setCell _ _ _ _ (show g9 ≠ w.heap.size + 1 by omega))) (Nat.zero_le _))
                  clear HROW hlr HRR
                  go_wp2
                  refine bodyPost_ret (v := .tuple #[.agg #[.slice (some ⟨g9, 0, none⟩) ns.length c9], .int .i64 0]) (by simp [results, Tryd.results19, go_sem, s1]) rfl ⟨_, by rw [HR3.out], by rw [HR3.out]; exact HRW.out, ?_⟩
                  exact hB.setCell (p := ⟨w.heap.size + 1, 0, none⟩) (by simp) _
            · have HR2 : Hid (Tr.renameOf ns (a : Int) nm = ([], 3)) := hide (by rw [HR1.out, HNW.out, hnk, hbt]; rfl)
              rw [hbt] at HHB
              go_wp2_with fail
              refine HHB.out.mono ?_
              rintro e w' ⟨rfl, rfl⟩
              go_wp2
              refine bodyPost_ret (v := .tuple #[.agg #[.slice none 0 0], .int .i64 3]) (by simp [results, Tryd.results19, go_sem, u1]) rfl ⟨_, by rw [HR2.out], by rw [HR2.out]; exact .inl ⟨rfl, rfl⟩, ?_⟩
              exact hB3.setCell (p := ⟨w.heap.size + 1, 0, none⟩) (by simp) _
      · have HR1 : Hid (Tr.renameOf ns (a : Int) nm = ([], 2)) := hide (by rw [HRN.out, HPL.out, if_pos (by simpa [Tr.isLocal] using hloc)])
        have q14 : (ns[a].kind != 14) = true := by simp; omega
        have q16 : (ns[a].kind != 16) = true := by simp; omega
        generalize ns[a].kind = kd at *
        clear HRN HPL hloc
        go_wp2_with fail
        refine HIN2.out.mono ?_
        rintro e w' ⟨rfl, rfl⟩
        go_wp2
        refine bodyPost_ret (v := .tuple #[.agg #[.slice none 0 0], .int .i64 2]) (by simp [results, Tryd.results19, go_sem, y1]) rfl ⟨_, by rw [HR1.out], by rw [HR1.out]; exact .inl ⟨rfl, rfl⟩, ?_⟩
        exact hB1.setCell (p := ⟨w.heap.size + 1, 0, none⟩) (by simp) _
    · have hin : Tr.inr at_ 0 ((ns.length : Int) - 1) = false := by rw [HIR.out]; exact decide_eq_false (by omega)
      have HR1 : Hid (Tr.renameOf ns at_ nm = ([], 2)) := hide (by
        have : Tr.placeOk ns at_ = false := by
          unfold Tr.placeOk
          by_cases h1 : 0 ≤ at_
          · rw [decide_eq_false (by omega : ¬ at_ < ns.length)]; simp
          · rw [decide_eq_false h1]; simp
        unfold Tr.renameOf; rw [hf, this]; rfl)
      have HIN2 := HIN.out w1
      rw [hin] at HIN2
      replace HIN2 := hide HIN2
      go_wp2_with fail
      refine HIN2.out.mono ?_
      rintro e w' ⟨rfl, rfl⟩
      go_wp2
      refine bodyPost_ret (v := .tuple #[.agg #[.slice none 0 0], .int .i64 2]) (by simp [results, Tryd.results19, go_sem, y1]) rfl ⟨_, by rw [HR1.out], by rw [HR1.out]; exact .inl ⟨rfl, rfl⟩, ?_⟩
      exact hB1.setCell (p := ⟨w.heap.size + 1, 0, none⟩) (by simp) _
end Go.Proofs.YtmklgiononbmmaaDoor
