/- What fits, on the program's side: a name is used, a name is made, many nodes. -/
import Derived.Test.YtmklgiononbmmaaDoorNb
namespace Go.Proofs.YtmklgiononbmmaaDoor
open Go.RowKit

set_option maxRecDepth 100000 in
set_option maxHeartbeats 1000000 in
theorem iuse_any (ns : List Tr.Nd) (ks : List (List Nat)) (wb tg tc kg kc cg bg k B : Nat) (ch : List Tr.Sp) (p : Option Addr) (s : Tr.St) (w : World) (hk : k < ns.length) (hF : Ix ns ks wb tg tc kg kc cg bg w) (hD : Dy ns.length cg bg s w) (hC : Chain cg bg w B p ch) :
    Calls Tryd.prog 81 #[.pointer (some ⟨wb, 0, none⟩), .int .i64 k, .pointer p] w fun e w' => e = .returned (.tuple #[]) ∧ Kp cg bg w w' ∧ Dy ns.length cg bg (Tr.iuse ns k ch s) w' := by
  obtain ⟨_, _, _, hN, _⟩ := hF.nodes.2 k hk
  have h0 := hF.f0
  have h2 := hF.f2
  obtain ⟨hcb, hfb⟩ := hD.cellB k hk
  have HF := hide hF
  have HD := hide hD
  have HU := hide (show Tr.iuse ns k ch s = (match Tr.cget ns[k].text ch with
    | some v => { s with binds := s.binds.set k v }
    | none => Tr.faultS k 9 s) by unfold Tr.iuse; rw [Tr.textOf_at hk] <;> rfl)
  have HFI := hide (find_any cg bg B ns[k].text (hF.texts _ (List.getElem_mem hk)) ch p w hC)
  clear hF hD hC
  generalize ns[k].text = x at *
  cases hg : Tr.cget x ch with
  | none =>
    have HFI2 := HFI.out
    rw [hg] at HFI2 HU
    replace HFI2 := hide HFI2
    go_enter Tryd.func81, Tryd.ntmps81
    go_wp2_with fail
    refine HFI2.out.mono ?_
    rintro e w1 ⟨rfl, rfl⟩
    go_wp2_with fail
    refine (blame_any ns ks wb tg tc kg kc cg bg k 9 s _ hk HF.out HD.out).mono ?_
    rintro e w2 ⟨rfl, hk2, hd2⟩
    go_wp2
    (first | go_end0 | refine bodyPost_ret (results_none rfl _ _ _) rfl ?_)
    exact ⟨rfl, hk2, by rw [HU.out]; exact hd2⟩
  | some v =>
    have HFI2 := HFI.out
    rw [hg] at HFI2 HU
    replace HFI2 := hide HFI2
    go_enter Tryd.func81, Tryd.ntmps81
    go_wp2_with fail
    refine HFI2.out.mono ?_
    rintro e w1 ⟨rfl, rfl⟩
    go_wp2
    (first | go_end0 | refine bodyPost_ret (results_none rfl _ _ _) rfl ?_)
    exact ⟨rfl, (Kp.refl _ _ _).setCell _ _ (.inr rfl), by rw [HU.out]; exact HD.out.setB k v⟩

/-- All but three blocks stay. -/
structure Ku (cg bg mb : Nat) (w w' : World) : Prop where
  os : w'.os = w.os
  tape : w'.tape = w.tape
  output : w'.output = w.output
  size : w.heap.size ≤ w'.heap.size
  block : ∀ b, b < w.heap.size → b ≠ cg → b ≠ bg → b ≠ mb → w'.heap[b]? = w.heap[b]?
theorem Ku.of_kp {cg bg mb : Nat} {w w' : World} (h : Kp cg bg w w') : Ku cg bg mb w w' := ⟨h.os, h.tape, h.output, h.size, fun b hb h1 h2 _ => h.block b hb h1 h2⟩
theorem Ku.of_grown {cg bg mb : Nat} {w w' : World} (h : w.grownBy w' (some mb)) : Ku cg bg mb w w' := ⟨h.os, h.tape, h.output, h.size, fun b hb _ _ h3 => h.block b hb (fun e => h3 (Option.some.inj e))⟩
theorem Ku.kp {cg bg mb : Nat} {w w' w'' : World} (h : Kp cg bg w w') (h' : Ku cg bg mb w' w'') (hm : w.heap.size ≤ mb) : Kp cg bg w w'' :=
  ⟨h'.os.trans h.os, h'.tape.trans h.tape, h'.output.trans h.output, Nat.le_trans h.size h'.size, fun b hb h1 h2 => (h'.block b (Nat.lt_of_lt_of_le hb h.size) h1 h2 (by omega)).trans (h.block b hb h1 h2)⟩
theorem Ku.cell {cg bg mb : Nat} {w w' : World} (h : Ku cg bg mb w w') {p : Addr} (hp : p.block < w.heap.size) (h1 : p.block ≠ cg) (h2 : p.block ≠ bg) (h3 : p.block ≠ mb) : w'.cell? p = w.cell? p := World.cell?_of_block (h.block p.block hp h1 h2 h3)
theorem SpAt.put {w' : World} {mb : Nat} {sc : Tr.Sp} {D : DataW Unit} {x : ByteArray} {v : Int} (hD : ∀ x : ByteArray, Maps.has D (.string x.data.toList) = (Tr.sget x sc).isSome ∧ ∀ v, Tr.sget x sc = some v → D.atKey (.string x.data.toList) (.lit (.int .i64 0)) = .lit (.int .i64 v))
    (hm : Maps.IsMap D) (h : w'.ownsMap (H := Unit) Tryd.prog 9 (plainElem Tryd.prog 3) mb (sc.length + 1) (D.put (.string x.data.toList) (.lit (.int .i64 v)))) : SpAt w' mb ((x, v) :: sc) := by
  refine ⟨_, h, fun y => ?_⟩
  by_cases e : x = y
  · subst e
    rw [Tr.sget, if_pos rfl]
    have hk : WideAt.IsKeyLit (Lit.string x.data.toList) := trivial
    exact ⟨Maps.has_put_same hm hk _, fun u hu => by rw [Maps.atKey_put_same hm hk]; cases hu; rfl⟩
  · have hne : Lit.string y.data.toList ≠ Lit.string x.data.toList := fun h => e (ByteArray.ext (Array.toList_inj.1 (by injection h with h; exact h.symm)))
    rw [Tr.sget, if_neg e]
    exact ⟨by rw [Maps.has_put_other hne]; exact (hD y).1, fun u hu => by rw [Maps.atKey_put_other hne]; exact (hD y).2 u hu⟩
theorem wf_nat (k : Nat) (h : k ≤ 1048576) : (Lit.int .i64 (k : Int)).wf = true := by
  have h1 : IntKind.i64.min = -9223372036854775808 := by decide
  have h2 : IntKind.i64.max = 9223372036854775807 := by decide
  simp [Lit.wf, h1, h2]
  omega

set_option maxRecDepth 100000 in
set_option maxHeartbeats 1000000 in
theorem enter_any (ns : List Tr.Nd) (ks : List (List Nat)) (wb tg tc kg kc cg bg k sb mb : Nat) (sc : Tr.Sp) (s : Tr.St) (w : World) (hn : ns.length ≤ 5000) (hk : k < ns.length) (hF : Ix ns ks wb tg tc kg kc cg bg w) (hD : Dy ns.length cg bg s w)
    (hs0 : w.cell? ⟨sb, 0, none⟩ = some (.map (some mb))) (hm : SpAt w mb sc) (hm1 : mb ≠ cg) (hm2 : mb ≠ bg) (hl : sc.length ≤ 100000000) :
    Calls Tryd.prog 83 #[.pointer (some ⟨wb, 0, none⟩), .int .i64 k, .pointer (some ⟨sb, 0, none⟩)] w fun e w' => e = .returned (.tuple #[]) ∧ Ku cg bg mb w w' ∧ Dy ns.length cg bg (Tr.enterS ns k (sc, s)).2 w' ∧ SpAt w' mb (Tr.enterS ns k (sc, s)).1 := by
  obtain ⟨_, _, _, hN, _⟩ := hF.nodes.2 k hk
  have h0 := hF.f0
  have hx := hF.texts _ (List.getElem_mem hk)
  have HF := hide hF
  have HD := hide hD
  have HM := hide hm
  have HU := hide (show Tr.enterS ns k (sc, s) = (match Tr.sget ns[k].text sc with
    | some _ => (sc, Tr.faultS k 8 s)
    | none => ((ns[k].text, (k : Int)) :: sc, s)) by unfold Tr.enterS; rw [Tr.textOf_at hk] <;> rfl)
  obtain ⟨D, hown, hDD⟩ := hm
  have HO := hide hown
  have HDD := hide hDD
  clear hF hD hown
  generalize ns[k].text = x at *
  obtain ⟨hd1, hd2⟩ := hDD x
  have HY : Hid (keyOf Tryd.prog 9 (.string x) = some (.string x.data.toList)) := hide (WideMaps.keyOf_string_mk Tryd.underlying9 (by unfold maxLen; omega))
  have HPE : Hid (plainElem (H := Unit) Tryd.prog 3 (.int .i64 (k : Int)) = some (.lit (.int .i64 (k : Int)), [])) := hide (plainElem_int Tryd.underlying3 (wf_nat k (by omega)))
  clear hDD hd2
  cases hg : Tr.sget x sc with
  | none =>
    rw [hg] at hd1 HU
    simp only [Option.isSome] at hd1
    go_enter Tryd.func83, Tryd.ntmps83
    go_wp2_with (at_lookup; refine wpList_lookup_own_ok_int _ rfl _ _ 116 rfl 9 3 .i64 lawT Tryd.underlying116 Tryd.underlying3 (zeroI _) mb _ D rfl HO.out _ _ rfl HY.out ?_)
    intro c hat hwc
    try rw [hd1]
    go_wp2_with (at_mapUpdate; refine wpList_mapUpdate_own _ rfl _ _ _ 116 rfl 9 3 lawT Tryd.underlying116 _ mb _ D rfl HO.out (by unfold maxLen; omega) _ _ _ rfl rfl HY.out _ [] HPE.out ?_)
    intro w1 hown1 hgrow1
    go_wp2
    (first | go_end0 | refine bodyPost_ret (results_none rfl _ _ _) rfl ?_)
    refine ⟨rfl, Ku.of_grown hgrow1, ?_, ?_⟩
    · rw [HU.out]
      exact ⟨HD.out.ne, row_same HD.out.c (hgrow1.block cg (HD.out.c.lt cg rfl).2 (fun e => hm1 (Option.some.inj e).symm)), row_same HD.out.b (hgrow1.block bg (HD.out.b.lt bg rfl).2 (fun e => hm2 (Option.some.inj e).symm))⟩
    · rw [HU.out]
      exact SpAt.put HDD.out HO.out.isMap hown1
  | some v =>
    rw [hg] at hd1 HU
    simp only [Option.isSome] at hd1
    go_enter Tryd.func83, Tryd.ntmps83
    go_wp2_with (at_lookup; refine wpList_lookup_own_ok_int _ rfl _ _ 116 rfl 9 3 .i64 lawT Tryd.underlying116 Tryd.underlying3 (zeroI _) mb _ D rfl HO.out _ _ rfl HY.out ?_)
    intro c hat hwc
    try rw [hd1]
    go_wp2_with fail
    refine (blame_any ns ks wb tg tc kg kc cg bg k 8 s _ hk HF.out HD.out).mono ?_
    rintro e w2 ⟨rfl, hk2, hd2⟩
    go_wp2
    (first | go_end0 | refine bodyPost_ret (results_none rfl _ _ _) rfl ?_)
    refine ⟨rfl, Ku.of_kp hk2, ?_, ?_⟩
    · rw [HU.out]; exact hd2
    · rw [HU.out]; exact HM.out.same (hk2.block mb HM.out.lt hm1 hm2)

/-- What is wanted of a walk over a node. -/
def WkOk (ns : List Tr.Nd) (ks : List (List Nat)) (wb tg tc kg kc cg bg f : Nat) (G : Nat → List Tr.Sp → Tr.St → Tr.St) : Prop :=
  ∀ (k : Nat) (p : Option Addr) (ch : List Tr.Sp) (s : Tr.St) (w : World), k < f → k < ns.length → Ix ns ks wb tg tc kg kc cg bg w → Dy ns.length cg bg s w → Chain cg bg w w.heap.size p ch →
    Calls Tryd.prog 59 #[.pointer (some ⟨wb, 0, none⟩), .int .i64 k, .pointer p] w fun e w' => e = .returned (.tuple #[]) ∧ Kp cg bg w w' ∧ Dy ns.length cg bg (G k ch s) w'
theorem Tr.all_at (G : Nat → List Tr.Sp → Tr.St → Tr.St) (ls : List Nat) (i : Nat) (ch : List Tr.Sp) (s : Tr.St) (h : i < ls.length) : Tr.all G (ls.take (i + 1)) ch s = G ls[i] ch (Tr.all G (ls.take i) ch s) := by
  unfold Tr.all
  rw [List.take_succ_eq_append_getElem h, List.foldl_append]; rfl

set_option maxHeartbeats 400000 in
theorem all_nil (q p : Value) (a : Option Addr) (c : Nat) (w : World) :
    Calls Tryd.prog 84 #[q, .slice a 0 c, p] w fun e w' => e = .returned (.tuple #[]) ∧ w' = w := by
  go_enter Tryd.func84, Tryd.ntmps84
  go_wp2
  go_loopw [10] (fun t wr => t = .int .i64 0 ∧ wr = w) (fun _ _ => 0)
  case atStart => exact ⟨rfl, rfl⟩
  case round =>
    obtain ⟨rfl, rfl⟩ := hrel
    go_wp2
    (first | go_end0 | refine bodyPost_ret (results_none rfl _ _ _) rfl ?_)
    exact ⟨rfl, rfl⟩

set_option maxRecDepth 100000 in
set_option maxHeartbeats 1000000 in
theorem all_some (ns : List Tr.Nd) (ks : List (List Nat)) (wb tg tc kg kc cg bg f : Nat) (G : Nat → List Tr.Sp → Tr.St → Tr.St) (hG : WkOk ns ks wb tg tc kg kc cg bg f G) (ls : List Nat) (g o c : Nat) (ch : List Tr.Sp) (p : Option Addr) (s : Tr.St) (w : World)
    (hls : ∀ x ∈ ls, x < f ∧ x < ns.length) (hl : ls.length ≤ 100000000) (hF : Ix ns ks wb tg tc kg kc cg bg w) (hD : Dy ns.length cg bg s w) (hC : Chain cg bg w w.heap.size p ch) (hg1 : g ≠ cg) (hg2 : g ≠ bg) (hI : IntsAt w g o ls) :
    Calls Tryd.prog 84 #[.pointer (some ⟨wb, 0, none⟩), .slice (some ⟨g, o, none⟩) ls.length c, .pointer p] w fun e w' => e = .returned (.tuple #[]) ∧ Kp cg bg w w' ∧ Dy ns.length cg bg (Tr.all G ls ch s) w' := by
  have HG := hide hG
  have HF := hide hF
  have HD := hide hD
  have HC := hide hC
  have HI := hide hI
  have HLS := hide hls
  clear hG hF hD hC hI hls
  go_enter Tryd.func84, Tryd.ntmps84
  go_wp2
  go_loopw [10] (fun t wr => ∃ i : Nat, i ≤ ls.length ∧ t = .int .i64 i ∧ Kp cg bg w wr ∧ Dy ns.length cg bg (Tr.all G (ls.take i) ch s) wr) (fun t _ => ls.length - (intOf t).toNat)
  case atStart => exact ⟨0, Nat.zero_le _, rfl, Kp.refl _ _ _, HD.out⟩
  case round =>
    obtain ⟨i, hi, rfl, hK, hDr⟩ := hrel
    have HDr := hide hDr
    clear hDr
    by_cases hlt : i < ls.length
    · have hx := (hK.cell (p := ⟨g, o + i, none⟩) HI.out.1 hg1 hg2).trans (HI.out.2 i hlt)
      have HS := hide (Tr.all_at G ls i ch s hlt)
      have hxl := HLS.out _ (List.getElem_mem hlt)
      have HGO := hide (HG.out ls[i] p ch _ wr hxl.1 hxl.2 (HF.out.kept hK) HDr.out (Chain.kept hK.size (fun b hb h1 h2 => hK.block b hb h1 h2) HC.out))
      generalize ls[i] = y at *
      go_wp2_with fail
      refine HGO.out.mono ?_
      rintro e w2 ⟨rfl, hk2, hd2⟩
      go_wp2
      go_roundw
      case rel => exact ⟨i + 1, by omega, by go_num, hK.trans hk2, by rw [HS.out]; exact hd2⟩
      case measure => simp [intOf]; omega
    · go_wp2
      (first | go_end0 | refine bodyPost_ret (results_none rfl _ _ _) rfl ?_)
      have e : ls.take i = ls := List.take_of_length_le (by omega)
      exact ⟨rfl, hK, by have := HDr.out; rwa [e] at this⟩
theorem all_any (ns : List Tr.Nd) (ks : List (List Nat)) (wb tg tc kg kc cg bg f : Nat) (G : Nat → List Tr.Sp → Tr.St → Tr.St) (hG : WkOk ns ks wb tg tc kg kc cg bg f G) (ls : List Nat) (v : Value) (ch : List Tr.Sp) (p : Option Addr) (s : Tr.St) (w : World)
    (hls : ∀ x ∈ ls, x < f ∧ x < ns.length) (hl : ls.length ≤ 100000000) (hF : Ix ns ks wb tg tc kg kc cg bg w) (hD : Dy ns.length cg bg s w) (hC : Chain cg bg w w.heap.size p ch) (hI : PlV cg bg w v ls) :
    Calls Tryd.prog 84 #[.pointer (some ⟨wb, 0, none⟩), v, .pointer p] w fun e w' => e = .returned (.tuple #[]) ∧ Kp cg bg w w' ∧ Dy ns.length cg bg (Tr.all G ls ch s) w' := by
  rcases hI with ⟨a, c, rfl, rfl⟩ | ⟨g, o, c, rfl, h1, h2, _, h3⟩
  · refine (all_nil _ _ _ _ _).mono ?_
    rintro e w' ⟨rfl, rfl⟩
    exact ⟨rfl, Kp.refl _ _ _, hD⟩
  · exact all_some ns ks wb tg tc kg kc cg bg f G hG ls g o c ch p s w hls hl hF hD hC h1 h2 h3
end Go.Proofs.YtmklgiononbmmaaDoor
