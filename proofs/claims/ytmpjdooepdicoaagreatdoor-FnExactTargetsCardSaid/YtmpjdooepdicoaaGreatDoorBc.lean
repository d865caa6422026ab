/- Targets, the program's side: sets of texts. -/
import Derived.Test.YtmpjdooepdicoaaGreatDoorBb
import Derived.Maps.OwnSet
namespace Go.Proofs.YtmpjdooepdicoaaGreatDoor.Vl
open Go.RowKit T.atoms T.ok T.high T.good T.allPlain DatAt

def keysD (acc : List ByteArray) : List Lit := acc.map fun s => Lit.string s.data.toList
def setD (acc : List ByteArray) : DataW Unit := Maps.setOf (.agg []) (keysD acc)
theorem setD_snoc (acc : List ByteArray) (s : ByteArray) : setD (acc ++ [s]) = (setD acc).put (.string s.data.toList) (.agg []) := by
  unfold setD keysD
  rw [List.map_append, List.map_cons, List.map_nil, Maps.setOf_snoc]
theorem has_setD (acc : List ByteArray) (s : ByteArray) : Maps.has (setD acc) (.string s.data.toList) = memS s acc := by
  unfold setD
  rw [Maps.has_setOf _ _ _ (fun x hx => by
    obtain ⟨y, _, rfl⟩ := List.mem_map.1 hx
    trivial)]
  unfold keysD memS
  rw [List.any_map]
  congr 1
  funext y
  rw [Bool.eq_iff_iff, decide_eq_true_eq]
  simp only [Function.comp, Lit.sameKey]
  rw [beq_iff_eq]
  constructor
  · intro h; exact ByteArray.ext (Array.toList_inj.1 (by first | exact h | (injection h)))
  · rintro rfl; rfl
/-- A set of texts. -/
def SetAt (W : World) (b n : Nat) (acc : List ByteArray) : Prop := W.ownsMap (H := Unit) Tryz.prog 9 unitElem b n (setD acc)
theorem memS_append (s : ByteArray) (a b : List ByteArray) : memS s (a ++ b) = (memS s a || memS s b) := by unfold memS; rw [List.any_append]
theorem SetAt.off {W : World} {b n : Nat} {acc : List ByteArray} (h : SetAt W b n acc) {g o : Nat} {v : Value} (hc : W.cell? ⟨g, o, none⟩ = some v) : g ≠ b := by
  rintro rfl
  obtain ⟨es, clock, hb, _⟩ := h
  simp [World.cell?, hb] at hc
theorem SetAt.kept {W W' : World} {b n : Nat} {acc : List ByteArray} {row : Option Nat} (h : SetAt W b n acc) (hg : W.grownBy W' row) (hr : row ≠ some b) : SetAt W' b n acc := World.ownsMap.kept h hg (fun e => hr e.symm)
theorem SetAt.below {W W' : World} {b n : Nat} {acc : List ByteArray} (h : SetAt W b n acc) (hb : Below W.heap.size W W') : SetAt W' b n acc := h.kept (row := none) ⟨hb.os, hb.tape, hb.output, hb.size, fun k hk _ => hb.block k hk⟩ (by simp)
theorem grown_refl (w : World) (r : Option Nat) : w.grownBy w r := ⟨rfl, rfl, rfl, Nat.le_refl _, fun _ _ _ => rfl⟩
theorem grown_trans {a b c : World} {r : Option Nat} (h : a.grownBy b r) (k : b.grownBy c r) : a.grownBy c r :=
  ⟨k.os.trans h.os, k.tape.trans h.tape, k.output.trans h.output, Nat.le_trans h.size k.size, fun i hi hr => (k.block i (Nat.lt_of_lt_of_le hi h.size) hr).trans (h.block i hi hr)⟩
theorem grown_alloc {a b : World} {r : Option Nat} (h : a.grownBy b r) (o : Obj) : a.grownBy (b.alloc o) r := grown_trans h (World.grownBy_alloc b o r)
theorem Tryz.zeroUnit (w : World) : (zeroValue 170).run Tryz.prog w = .ok (.agg #[]) w := by kernel_rfl
theorem Tryz.strKeyed : Maps.Keyed Tryz.prog 9 := Maps.string_keyed Tryz.underlying9
/-- What enter hands back. -/
def EPost (w : World) (b n : Nat) (acc l : List ByteArray) (e : Ending) (w' : World) : Prop := e = .returned (.bool (!outsBad acc l)) ∧ (outsBad acc l = false → SetAt w' b (n + l.length) (acc ++ l)) ∧ w.grownBy w' (some b)
set_option maxRecDepth 100000 in
set_option maxHeartbeats 1000000 in
theorem enter_some (l acc : List ByteArray) (b n g o c : Nat) (w : World) (hl : l.length ≤ 1048576) (hx : ∀ x ∈ l, x.size ≤ 1048576) (hn : n ≤ 1099511627776) (hc : StrsO w g o l) (hm : SetAt w b n acc) :
    Calls Tryz.prog 57 #[.map (some b), .slice (some ⟨g, o, none⟩) l.length c] w (EPost w b n acc l) := by
  have HC := hide hc
  have HX := hide hx
  have HM := hide hm
  clear hc hx hm
  go_enter Tryz.func57, Tryz.ntmps57
  go_wp2
  go_loopw [11] (fun t wr => ∃ i : Nat, i ≤ l.length ∧ t = .int .i64 i ∧ SetAt wr b (n + i) (acc ++ l.take i) ∧ (∀ j (h : j < l.length), j < i → memS l[j] acc = false ∧ memS l[j] (l.take j) = false) ∧ w.grownBy wr (some b)) (fun t _ => l.length - (intOf t).toNat)
  case atStart => exact ⟨0, Nat.zero_le _, rfl, by rw [List.take_zero, List.append_nil]; exact HM.out, fun j _ h => by omega, grown_refl _ _⟩
  case round =>
    obtain ⟨i, hi, rfl, hs, hno, hg⟩ := hrel
    have HS := hide hs
    have HNO := hide hno
    have HG := hide hg
    clear hs hno hg
    by_cases hlt : i < l.length
    · have hc0 := HC.out.2 i hlt
      have hgb : g ≠ b := HM.out.off hc0
      have c0 : wr.cell? ⟨g, o + i, none⟩ = some (.string l[i]) := (World.cell?_of_block (a := ⟨g, o + i, none⟩) (HG.out.block g HC.out.1 (by simpa using hgb))).trans hc0
      have HK : Hid (keyOf Tryz.prog 9 (.string l[i]) = some (.string l[i].data.toList)) := hide (WideMaps.keyOf_string_mk Tryz.underlying9 (by have := HX.out _ (List.getElem_mem hlt); unfold maxLen; omega))
      have HTK : Hid (acc ++ l.take (i + 1) = (acc ++ l.take i) ++ [l[i]]) := hide (by rw [List.take_succ_eq_append_getElem hlt, List.append_assoc])
      have HMA := hide (memS_append l[i] acc (l.take i))
      have hhas := has_setD (acc ++ l.take i) l[i]
      cases hq : memS l[i] (acc ++ l.take i)
      · rw [hq] at hhas
        have HN2 : Hid (∀ j (h : j < l.length), j < i + 1 → memS l[j] acc = false ∧ memS l[j] (l.take j) = false) := hide (fun j hj hji => by
          by_cases e : j = i
          · subst e
            have h := HMA.out
            rw [hq] at h
            exact Bool.or_eq_false_iff.1 h.symm
          · exact HNO.out j hj (by omega))
        have HSO : Hid (wr.ownsMap (H := Unit) Tryz.prog 9 unitElem b (n + i) (setD (acc ++ l.take i))) := HS
        clear hc0 hq HMA HNO HS
        generalize l[i] = s at *
        go_wp2_with (first
          | (at_lookup; refine wpList_lookup_own_unit _ rfl _ _ 90 rfl 9 170 Tryz.strKeyed Tryz.underlying90 (Tryz.zeroUnit _) b (n + i) _ rfl HSO.out _ _ rfl HK.out ?_)
          | (at_mapUpdate; refine wpList_mapUpdate_own _ rfl _ _ _ 90 rfl 9 170 Tryz.strKeyed Tryz.underlying90 (unitElem (H := Unit)) b (n + i) _ rfl (HSO.out.alloc _) (by unfold maxLen; omega) _ _ _ rfl rfl HK.out _ [] unitElem_mk ?_; intro w1 hown1 hgrow1))
        have HO1 : Hid (SetAt w1 b (n + (i + 1)) (acc ++ l.take (i + 1))) := hide (by rw [HTK.out, ← Nat.add_assoc]; unfold SetAt; rw [setD_snoc]; exact hown1)
        have HG1 := hide (grown_trans (grown_alloc HG.out _) hgrow1)
        clear hown1 hgrow1
        go_wp2
        go_roundw
        case rel => exact ⟨i + 1, by omega, by go_num, HO1.out, HN2.out, HG1.out⟩
        case measure => simp [intOf]; omega
      · rw [hq] at hhas
        have HBD : Hid (outsBad acc l = true) := hide (outsBad_yes hlt (by rw [← HMA.out, hq]))
        have HSO : Hid (wr.ownsMap (H := Unit) Tryz.prog 9 unitElem b (n + i) (setD (acc ++ l.take i))) := HS
        clear hc0 hq HMA HNO HS
        generalize l[i] = s at *
        go_wp2_with (first
          | (at_lookup; refine wpList_lookup_own_unit _ rfl _ _ 90 rfl 9 170 Tryz.strKeyed Tryz.underlying90 (Tryz.zeroUnit _) b (n + i) _ rfl HSO.out _ _ rfl HK.out ?_))
        go_wp2
        go_ret
        refine ⟨by rw [HBD.out]; rfl, ?_, ?_⟩
        · intro h
          rw [HBD.out] at h
          cases h
        · exact grown_alloc HG.out _
    · have HBD : Hid (outsBad acc l = false) := hide (outsBad_no (fun j hj => HNO.out j hj (by omega)))
      have HE : Hid (SetAt wr b (n + l.length) (acc ++ l)) := hide (by
        have h := HS.out
        obtain rfl : i = l.length := by omega
        rwa [List.take_length] at h)
      go_wp2
      go_ret
      exact ⟨by rw [HBD.out]; rfl, fun _ => HE.out, HG.out⟩
set_option maxRecDepth 100000 in
set_option maxHeartbeats 400000 in
theorem enter_none (acc : List ByteArray) (b n : Nat) (p : Option Addr) (c : Nat) (w : World) (hm : SetAt w b n acc) :
    Calls Tryz.prog 57 #[.map (some b), .slice p 0 c] w (EPost w b n acc []) := by
  have HM := hide hm
  clear hm
  go_enter Tryz.func57, Tryz.ntmps57
  go_wp2
  go_loopw [11] (fun u wr => u = .int .i64 0 ∧ wr = w) (fun _ _ => 0)
  case atStart => exact ⟨rfl, rfl⟩
  case round =>
    obtain ⟨rfl, rfl⟩ := hrel
    go_wp2
    go_ret
    exact ⟨rfl, fun _ => by rw [List.append_nil]; exact HM.out, grown_refl _ _⟩
theorem enter_any (l acc : List ByteArray) (b n : Nat) (v : Value) (w : World) (hl : l.length ≤ 1048576) (hx : ∀ x ∈ l, x.size ≤ 1048576) (hn : n ≤ 1099511627776) (hv : StrsV w v l) (hm : SetAt w b n acc) :
    Calls Tryz.prog 57 #[.map (some b), v] w (EPost w b n acc l) := by
  rcases hv with ⟨p, c, rfl, rfl⟩ | ⟨g, o, c, rfl, h⟩
  · exact enter_none acc b n p c w hm
  · exact enter_some l acc b n g o c w hl hx hn h hm
end Go.Proofs.YtmpjdooepdicoaaGreatDoor.Vl
