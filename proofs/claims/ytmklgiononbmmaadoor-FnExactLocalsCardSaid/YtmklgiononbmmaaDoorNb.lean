/- What fits, on the program's side: memory, and the small walks. -/
import Derived.Test.YtmklgiononbmmaaDoorNd
import Derived.Maps.OwnSet
import Derived.Deep.RegionLaw
namespace Go.Proofs.YtmklgiononbmmaaDoor
open Go.RowKit

/-- One scope's names lie in a map. -/
def SpAt (w : World) (mb : Nat) (sc : Tr.Sp) : Prop := ∃ D, w.ownsMap (H := Unit) Tryd.prog 9 (plainElem Tryd.prog 3) mb sc.length D ∧
  ∀ x : ByteArray, Maps.has D (.string x.data.toList) = (Tr.sget x sc).isSome ∧ ∀ v, Tr.sget x sc = some v → D.atKey (.string x.data.toList) (.lit (.int .i64 0)) = .lit (.int .i64 v)
theorem SpAt.lt {w : World} {mb : Nat} {sc : Tr.Sp} (h : SpAt w mb sc) : mb < w.heap.size := by
  obtain ⟨D, h, _⟩ := h; exact h.lt
theorem SpAt.same {w w' : World} {mb : Nat} {sc : Tr.Sp} (h : SpAt w mb sc) (hb : w'.heap[mb]? = w.heap[mb]?) : SpAt w' mb sc := by
  obtain ⟨D, ⟨es, clock, h1, h2⟩, h3⟩ := h
  exact ⟨D, ⟨es, clock, hb.trans h1, h2⟩, h3⟩
theorem SpAt.made (w : World) : SpAt (w.alloc (.map #[] 0)) w.heap.size [] := ⟨_, World.ownsMap_made w _ _ _, fun _ => ⟨rfl, fun v h => by cases h⟩⟩
/-- Scopes, the innermost first, in blocks below a bound, each below the one inside it, none of them one of two. -/
def Chain (cg bg : Nat) (w : World) : Nat → Option Addr → List Tr.Sp → Prop
  | _, p, [] => p = none
  | B, p, sc :: r => ∃ sb mb q, p = some ⟨sb, 0, none⟩ ∧ sb < B ∧ mb < sb ∧ sb ≠ cg ∧ sb ≠ bg ∧ mb ≠ cg ∧ mb ≠ bg ∧ w.cell? ⟨sb, 0, none⟩ = some (.map (some mb)) ∧ w.cell? ⟨sb, 1, none⟩ = some (.pointer q) ∧ SpAt w mb sc ∧ Chain cg bg w mb q r
theorem Chain.kept {cg bg : Nat} {w w' : World} : ∀ {ch : List Tr.Sp} {p : Option Addr} {B B' : Nat}, B ≤ B' → (∀ b, b < B → b ≠ cg → b ≠ bg → w'.heap[b]? = w.heap[b]?) → Chain cg bg w B p ch → Chain cg bg w' B' p ch
  | [], _, _, _, _, _, h => h
  | _ :: _, _, _, _, hB, hk, ⟨sb, mb, q, hp, h1, h4, h2, h3, h5, h6, c0, c1, hs, hr⟩ =>
    ⟨sb, mb, q, hp, by omega, h4, h2, h3, h5, h6, (World.cell?_of_block (a := ⟨sb, 0, none⟩) (hk sb h1 h2 h3)).trans c0, (World.cell?_of_block (a := ⟨sb, 1, none⟩) (hk sb h1 h2 h3)).trans c1, hs.same (hk mb (by omega) h5 h6), Chain.kept (Nat.le_refl _) (fun b hb => hk b (by omega)) hr⟩
def ptrM : Value → Nat
  | .pointer (some a) => a.block + 1
  | _ => 0
theorem Chain.measure {cg bg : Nat} {w : World} {B : Nat} {p : Option Addr} {ch : List Tr.Sp} (h : Chain cg bg w B p ch) : ptrM (.pointer p) ≤ B := by
  cases ch with
  | nil => rw [show p = none from h]; exact Nat.zero_le _
  | cons sc r => obtain ⟨sb, mb, q, rfl, h1, _⟩ := h; exact h1
theorem Chain.kp {cg bg : Nat} {w w' : World} {B : Nat} {ch : List Tr.Sp} {p : Option Addr} (h : Chain cg bg w B p ch) (hk : Kp cg bg w w') (hB : B ≤ w.heap.size) : Chain cg bg w' B p ch := Chain.kept (Nat.le_refl _) (fun b hb h1 h2 => hk.block b (by omega) h1 h2) h
/-- Places lie in a slice, or there are none. -/
def PlV (cg bg : Nat) (w : World) (v : Value) (ls : List Nat) : Prop := (∃ p c, v = .slice p 0 c ∧ ls = []) ∨ (∃ g o c, v = .slice (some ⟨g, o, none⟩) ls.length c ∧ g ≠ cg ∧ g ≠ bg ∧ ls.length ≤ c ∧ IntsAt w g o ls)
theorem PlV.kept {cg bg : Nat} {w w' : World} {v : Value} {ls : List Nat} (h : PlV cg bg w v ls) (hk : Kp cg bg w w') : PlV cg bg w' v ls := by
  rcases h with h | ⟨g, o, c, h1, h2, h3, hc, h4⟩
  · exact .inl h
  · exact .inr ⟨g, o, c, h1, h2, h3, hc, Nat.lt_of_lt_of_le h4.1 hk.size, fun j hj => (hk.cell (p := ⟨g, o + j, none⟩) h4.1 h2 h3).trans (h4.2 j hj)⟩
/-- What does not change while the program goes through a tree. -/
structure Ix (ns : List Tr.Nd) (ks : List (List Nat)) (wb tg tc kg kc cg bg : Nat) (w : World) : Prop where
  wb1 : wb ≠ cg
  wb2 : wb ≠ bg
  tg1 : tg ≠ cg
  tg2 : tg ≠ bg
  kg1 : kg ≠ cg
  kg2 : kg ≠ bg
  wlt : wb < w.heap.size
  klt : kg < w.heap.size
  f0 : w.cell? ⟨wb, 0, none⟩ = some (.slice (some ⟨tg, 0, none⟩) ns.length tc)
  f1 : w.cell? ⟨wb, 1, none⟩ = some (.slice (some ⟨kg, 0, none⟩) ns.length kc)
  f2 : w.cell? ⟨wb, 2, none⟩ = some (.slice (some ⟨bg, 0, none⟩) ns.length ns.length)
  f3 : w.cell? ⟨wb, 3, none⟩ = some (.slice (some ⟨cg, 0, none⟩) ns.length ns.length)
  nodes : NodesAt w tg ns
  texts : ∀ x ∈ ns, x.text.size ≤ 1048576
  len : ks.length = ns.length
  kids : ∀ k (h : k < ks.length), ∃ v, w.cell? ⟨kg, k, none⟩ = some v ∧ PlV cg bg w v ks[k]
theorem Ix.kept {ns : List Tr.Nd} {ks : List (List Nat)} {wb tg tc kg kc cg bg : Nat} {w w' : World} (h : Ix ns ks wb tg tc kg kc cg bg w) (hk : Kp cg bg w w') : Ix ns ks wb tg tc kg kc cg bg w' := by
  refine ⟨h.wb1, h.wb2, h.tg1, h.tg2, h.kg1, h.kg2, Nat.lt_of_lt_of_le h.wlt hk.size, Nat.lt_of_lt_of_le h.klt hk.size, ?_, ?_, ?_, ?_, ?_, h.texts, h.len, ?_⟩
  · exact (hk.cell (p := ⟨wb, 0, none⟩) h.wlt h.wb1 h.wb2).trans h.f0
  · exact (hk.cell (p := ⟨wb, 1, none⟩) h.wlt h.wb1 h.wb2).trans h.f1
  · exact (hk.cell (p := ⟨wb, 2, none⟩) h.wlt h.wb1 h.wb2).trans h.f2
  · exact (hk.cell (p := ⟨wb, 3, none⟩) h.wlt h.wb1 h.wb2).trans h.f3
  · refine ⟨Nat.lt_of_lt_of_le h.nodes.1 hk.size, fun i hi => ?_⟩
    obtain ⟨a, b, c, d, e⟩ := h.nodes.2 i hi
    exact ⟨(hk.cell (p := ⟨tg, i * 5, none⟩) h.nodes.1 h.tg1 h.tg2).trans a, (hk.cell (p := ⟨tg, i * 5 + 1, none⟩) h.nodes.1 h.tg1 h.tg2).trans b, (hk.cell (p := ⟨tg, i * 5 + 2, none⟩) h.nodes.1 h.tg1 h.tg2).trans c, (hk.cell (p := ⟨tg, i * 5 + 3, none⟩) h.nodes.1 h.tg1 h.tg2).trans d, (hk.cell (p := ⟨tg, i * 5 + 4, none⟩) h.nodes.1 h.tg1 h.tg2).trans e⟩
  · intro k hkl
    obtain ⟨v, a, b⟩ := h.kids k hkl
    exact ⟨v, (hk.cell (p := ⟨kg, k, none⟩) h.klt h.kg1 h.kg2).trans a, b.kept hk⟩

theorem lawT : Maps.Keyed Tryd.prog 9 := Maps.string_keyed Tryd.underlying9
theorem zeroI (w : World) : (zeroValue 3).run Tryd.prog w = .ok (.int .i64 0) w := by kernel_rfl

set_option maxRecDepth 100000 in
set_option maxHeartbeats 1000000 in
theorem blame_any (ns : List Tr.Nd) (ks : List (List Nat)) (wb tg tc kg kc cg bg k : Nat) (c : Int) (s : Tr.St) (w : World) (hk : k < ns.length) (hF : Ix ns ks wb tg tc kg kc cg bg w) (hD : Dy ns.length cg bg s w) :
    Calls Tryd.prog 96 #[.pointer (some ⟨wb, 0, none⟩), .int .i64 k, .int .i64 c] w fun e w' => e = .returned (.tuple #[]) ∧ Kp cg bg w w' ∧ Dy ns.length cg bg (Tr.faultS k c s) w' := by
  have h2 := hF.f3
  obtain ⟨hc, hf⟩ := hD.cellC k hk
  have HD := hide hD
  have HS := hide (show Tr.faultS k c s = if s.codes[k]?.getD 0 = 0 ∨ c < s.codes[k]?.getD 0 then { s with codes := s.codes.set k c } else s from rfl)
  clear hF hD
  generalize s.codes[k]?.getD 0 = z at *
  cases hz : (z == 0)
  · by_cases hlt : c < z
    · have HS2 : Hid (Tr.faultS k c s = { s with codes := s.codes.set k c }) := hide (by rw [HS.out, if_pos (.inr hlt)])
      go_enter Tryd.func96, Tryd.ntmps96
      go_wp2
      (first | go_end0 | refine bodyPost_ret (results_none rfl _ _ _) rfl ?_)
      exact ⟨rfl, (Kp.refl _ _ _).setCell _ _ (.inl rfl), by rw [HS2.out]; exact HD.out.setC k c⟩
    · have HS2 : Hid (Tr.faultS k c s = s) := hide (by rw [HS.out, if_neg (by rintro (h | h); simp [h] at hz; exact hlt h)])
      go_enter Tryd.func96, Tryd.ntmps96
      go_wp2
      (first | go_end0 | refine bodyPost_ret (results_none rfl _ _ _) rfl ?_)
      exact ⟨rfl, Kp.refl _ _ _, by rw [HS2.out]; exact HD.out⟩
  · have HS2 : Hid (Tr.faultS k c s = { s with codes := s.codes.set k c }) := hide (by rw [HS.out, if_pos (.inl (by simpa using hz))])
    go_enter Tryd.func96, Tryd.ntmps96
    go_wp2
    (first | go_end0 | refine bodyPost_ret (results_none rfl _ _ _) rfl ?_)
    exact ⟨rfl, (Kp.refl _ _ _).setCell _ _ (.inl rfl), by rw [HS2.out]; exact HD.out.setC k c⟩

set_option maxHeartbeats 400000 in
theorem inside_any (p : Option Addr) (w : World) :
    Calls Tryd.prog 82 #[.pointer p] w fun e w' => e = .returned (.pointer (some ⟨w.heap.size + 1, 0, none⟩)) ∧ w' = (w.alloc (.map #[] 0)).alloc (.cells #[.map (some w.heap.size), .pointer p] 118) := by
  have hmm := @run_makeMap Tryd.prog
  go_enter Tryd.func82, Tryd.ntmps82
  go_wp2
  go_ret
  exact ⟨by simp, rfl⟩

set_option maxRecDepth 100000 in
set_option maxHeartbeats 1000000 in
theorem find_any (cg bg B : Nat) (x : ByteArray) (hx : x.size ≤ 1048576) (ch : List Tr.Sp) (p : Option Addr) (w : World) (hch : Chain cg bg w B p ch) :
    Calls Tryd.prog 66 #[.pointer p, .string x] w fun e w' => e = .returned (.tuple #[.int .i64 ((Tr.cget x ch).getD 0), .bool (Tr.cget x ch).isSome]) ∧ w' = w := by
  have HC := hide hch
  have HY : Hid (keyOf Tryd.prog 9 (.string x) = some (.string x.data.toList)) := hide (WideMaps.keyOf_string_mk Tryd.underlying9 (by unfold maxLen; omega))
  clear hch
  go_enter Tryd.func66, Tryd.ntmps66
  go_wp2
  go_loopw [0] (fun v wr => ∃ (q : Option Addr) (r : List Tr.Sp) (B' : Nat), v = .pointer q ∧ wr = w ∧ Chain cg bg w B' q r ∧ Tr.cget x ch = Tr.cget x r) (fun v _ => ptrM v)
  case atStart => exact ⟨p, ch, B, rfl, rfl, HC.out, rfl⟩
  case round =>
    obtain ⟨q0, r, B', rfl, rfl, hr, he⟩ := hrel
    have HE := hide he
    clear he HC
    cases r with
    | nil =>
      obtain rfl := (show q0 = none from hr)
      go_wp2
      go_ret2
      rw [HE.out]
      exact ⟨rfl, rfl⟩
    | cons sc r =>
      obtain ⟨sb, mb, q, rfl, h1, h4, h2, h3, h5, h6, c0, c1, ⟨D, hown, hD⟩, hr⟩ := hr
      have HR := hide hr
      have HO := hide hown
      obtain ⟨hd1, hd2⟩ := hD x
      have HD2 := hide hd2
      have HG := hide (Tr.cget_cons x sc r)
      clear hr hown hD hd2
      cases hg : Tr.sget x sc with
      | none =>
        rw [hg] at hd1 HG
        simp only [Option.isSome] at hd1
        go_wp2_with (at_lookup; refine wpList_lookup_own_ok_int _ rfl _ _ 116 rfl 9 3 .i64 lawT Tryd.underlying116 Tryd.underlying3 (zeroI _) mb _ D rfl HO.out _ _ rfl HY.out ?_)
        intro c hat hwc
        try rw [hd1]
        go_wp2
        go_roundw
        case rel => exact ⟨q, r, mb, by trivial, by trivial, HR.out, by rw [HE.out, HG.out]; rfl⟩
        case measure => have := HR.out.measure; simp [ptrM] at *; omega
      | some v =>
        have HAT := hide (HD2.out v hg)
        rw [hg] at hd1 HG
        simp only [Option.isSome] at hd1
        go_wp2_with (at_lookup; refine wpList_lookup_own_ok_int _ rfl _ _ 116 rfl 9 3 .i64 lawT Tryd.underlying116 Tryd.underlying3 (zeroI _) mb _ D rfl HO.out _ _ rfl HY.out ?_)
        intro c hat hwc
        try rw [hd1]
        have hcv : c = v := by rw [HAT.out] at hat; simpa using hat.symm
        subst hcv
        go_wp2
        go_ret2
        rw [HE.out, HG.out]
        exact ⟨rfl, rfl⟩
end Go.Proofs.YtmklgiononbmmaaDoor
