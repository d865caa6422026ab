/- Walks: the fields of a record, on the program's side. -/
import Derived.Test.YtfpdoafpimaoaaaQi
namespace Go.Proofs.Ytfpdoafpimaoaaa.Vl
open Go.RowKit T.atoms T.ok T.high T.good T.allPlain DatAt

/-- What fieldsOf answers. -/
def FPost (w : World) (x : Nat) (ks : List T) (e : Ending) (w' : World) : Prop :=
  (names ks = true ∧ ∃ p' c' fvs m, ks.length = 2 * m ∧ e = .returned (.tuple #[.slice p' m c', .bool true]) ∧ FldL w x ks fvs ∧ RowAt w' x p' fvs ∧ m ≤ c' ∧ Below w.heap.size w w') ∨
  (names ks = false ∧ e = .returned (.tuple #[.slice none 0 0, .bool false]) ∧ Below w.heap.size w w')
theorem fpost_no {w w' : World} {x : Nat} {ks : List T} (h : names ks = false) (hb : Below w.heap.size w w') : FPost w x ks (.returned (.tuple #[.slice none 0 0, .bool false])) w' := .inr ⟨h, rfl, hb⟩
/-- The fields so far. -/
def Flds (w : World) (x : Nat) (l : List T) (j : Nat) (v4 : Value) (wr : World) : Prop :=
  ∃ a4 c4 fvs, v4 = .slice a4 j c4 ∧ wr.ownsRow w.heap.size 95 2 (.slice a4 j c4) j fvs ∧ FldL w x l fvs ∧ ((j = 0 ∧ a4 = none ∧ c4 = 0) ∨ ∃ g4, a4 = some ⟨g4, 0, none⟩)
theorem cells_two (w : World) (u v : Value) (t : TypeId) : ∀ (j : Nat) (y : Value), ([u, v] : List Value)[j]? = some y → (w.alloc (.cells #[u, v] t)).cell? ((⟨w.heap.size, 0, none⟩ : Addr).add j) = some y := by
  intro j y h
  rw [add_plain, Nat.zero_add, World.cell?, heap_alloc_new]
  simpa using h

theorem DatAt.isIface {w : World} {x : Nat} {t : T} {v : Value} (h : DatAt w x t v) : ∃ y u, v = .iface y u := by
  by_cases hk : t.kind = 4
  · exact ⟨_, _, h.text hk⟩
  · obtain ⟨y, u, e, _⟩ := h.other hk
    exact ⟨y, u, e⟩
theorem FldL.nameAt {w : World} {x : Nat} {l : List T} {vs : List Value} (h : FldL w x l vs) (j : Nat) (hj : 2 * j + 1 < l.length) : vs[2 * j]? = some (.string ((l[2 * j]?.map T.text).getD ⟨#[]⟩)) := by
  obtain ⟨v, h1, _, _⟩ := FldL.at h j hj
  rw [h1, List.getElem?_eq_getElem (by omega)]; rfl
theorem row_pos {w2 : World} {b size : Nat} {e : TypeId} {v2 : Value} {n : Nat} {xs : List Value} (hown : w2.ownsRow b e size v2 n xs) (hn : 0 < n) : ∃ g2 c2, v2 = .slice (some ⟨g2, 0, none⟩) n c2 := by
  rcases hown.2 with ⟨_, h0, _⟩ | ⟨g2, c2, _, h, _⟩
  · omega
  · exact ⟨g2, c2, h⟩
set_option maxRecDepth 100000 in
set_option maxHeartbeats 1000000 in
theorem fieldsOf_any (ks : List T) (vs : List Value) (p : Option Addr) (c x : Nat) (w : World) (hn : ks.length ≤ 1000) (hD : DatL w x ks vs) (hR : RowC w p vs) (hx : x < w.heap.size) :
    Calls Try.prog 73 #[.slice p ks.length c] w fun e w' => FPost w x ks e w' := by
  obtain ⟨iF, hF, hFz, hFs, hFb⟩ := info_parts Try.infoFld
  have HD := hide hD
  have HR := hide hR
  clear hD hR
  by_cases hodd : ks.length % 2 = 0
  · have hev : (ks.length : Int) % 2 = 0 := by omega
    have HX := hide hx
    go_enter Try.func73, Try.ntmps73
    go_wp2
    go_loopw [4, 5] (fun v4 t5 wr => ∃ i j : Nat, i = 2 * j ∧ i ≤ ks.length ∧ t5 = .int .i64 i ∧ Flds w x (ks.take i) j v4 wr ∧ Below w.heap.size w wr ∧ names ks = namesFrom ks (ks.length + 1 - j) i) (fun _ t5 _ => ks.length - (intOf t5).toNat)
    case atStart => exact ⟨0, 0, rfl, by omega, rfl, ⟨none, 0, [], rfl, World.ownsRow_nil _ _ _ _, by rw [List.take_zero]; unfold FldL; rfl, .inl ⟨rfl, rfl, rfl⟩⟩, Below.refl _ _, (names_from ks hodd).symm⟩
    case round =>
      clear hev
      obtain ⟨i, j, hij, hi, rfl, ⟨a4, c4, fvs, rfl, ho4, hfl, hcase⟩, hB, hnm⟩ := hrel
      have HN := hide hnm
      have HIJ := hide hij
      have HFL := hide hfl
      have HCA := hide hcase
      have HO := hide ho4
      clear hnm hij hfl hcase ho4
      by_cases hlt : i < ks.length
      · have hlt2 : i + 2 ≤ ks.length := by have := HIJ.out; omega
        have HNX : Hid (names ks = (namesAt ks i && namesFrom ks (ks.length + 1 - (j + 1)) (i + 2))) := hide (by
          have := HIJ.out
          rw [HN.out, show ks.length + 1 - j = (ks.length + 1 - (j + 1)) + 1 from by omega, namesFrom, if_pos hlt])
        have HNA : Hid (namesAt ks i = ((ks[i]).kind == 4 && (i == 0 || slt ((ks[i - 2]?.map T.text).getD ⟨#[]⟩) (ks[i]).text))) := hide (by unfold namesAt; rw [List.getElem?_eq_getElem hlt]; rfl)
        obtain ⟨v, hv, hdv⟩ := DatL.at HD.out i hlt
        obtain ⟨v2, hv2, hdv2⟩ := DatL.at HD.out (i + 1) (by omega)
        have hne : vs ≠ [] := fun e => by rw [e] at hv; simp at hv
        rcases HR.out with h | ⟨g, o, rfl, hgw, hcs⟩
        · exact absurd h hne
        have e0 := (hB.cell (p := ⟨g, o + i, none⟩) hgw).trans (hcs i v hv)
        have e1 := (hB.cell (p := ⟨g, o + (i + 1), none⟩) hgw).trans (hcs (i + 1) v2 hv2)
        have HDV2 := hide hdv2
        obtain ⟨y2, u2, hv2e⟩ := hdv2.isIface
        subst hv2e
        clear hv hv2 hne hcs hdv2
        by_cases hk : (ks[i]).kind = 4
        · obtain rfl := hdv.text hk
          have ht := ta_text_yes (ks[i]).text
          have HSN : Hid (FldL w x (ks.take (i + 2)) (fvs ++ [.string (ks[i]).text, .iface y2 u2])) := hide (by
            have e : ks.take (i + 2) = ks.take i ++ [ks[i], ks[i + 1]'(by omega)] := by
              rw [show i + 2 = (i + 1) + 1 from rfl, List.take_succ_eq_append_getElem (show i + 1 < ks.length by omega), List.take_succ_eq_append_getElem hlt, List.append_assoc]; rfl
            rw [e]
            exact FldL.snoc HFL.out HDV2.out)
          have HT2 : Hid (i ≠ 0 → ∃ g4, a4 = some ⟨g4, 0, none⟩ ∧ w.heap.size ≤ g4 ∧ g4 < wr.heap.size ∧ wr.cell? ⟨g4, (j - 1) * 2, none⟩ = some (.string ((ks[i - 2]?.map T.text).getD ⟨#[]⟩)) ∧ 1 ≤ j) := hide (by
            intro h0
            have := HIJ.out
            rcases HCA.out with ⟨h, _⟩ | ⟨g4, rfl⟩
            · omega
            · have hr := row_room HO.out
              refine ⟨g4, rfl, hr.2.1, hr.2.2, ?_, by omega⟩
              have hlen : (ks.take i).length = i := by simp; omega
              have hu := FldL.nameAt HFL.out (j - 1) (by rw [hlen]; omega)
              have q := row_cells HO.out (2 * (j - 1)) _ hu
              rw [show (j - 1) * 2 = 0 + 2 * (j - 1) from by omega, q, List.getElem?_take_of_lt (by omega), show 2 * (j - 1) = i - 2 from by omega])
          have hk4 : ((ks[i]).kind == 4) = true := by rw [hk]; rfl
          rw [hk4] at HNA
          generalize (ks[i]).text = tx at *
          have fin : names ks = namesFrom ks (ks.length + 1 - (j + 1)) (i + 2) → ∀ v5 w5, w5.ownsRow w.heap.size 95 2 v5 (j + 1) (fvs ++ [.string tx, .iface y2 u2]) → (wr.alloc (.cells #[.string tx, .iface y2 u2] 95)).grownBy w5 (Value.slice a4 j c4).ownBlock →
              ∃ i2 j2 : Nat, i2 = 2 * j2 ∧ i2 ≤ ks.length ∧ (Value.int .i64 ((i : Int) + 2)) = .int .i64 i2 ∧ Flds w x (ks.take i2) j2 v5 w5 ∧ Below w.heap.size w w5 ∧ names ks = namesFrom ks (ks.length + 1 - j2) i2 := by
            intro hnn v5 w5 h1 h2
            obtain ⟨g5, c5, rfl⟩ := row_pos h1 (by omega)
            refine ⟨i + 2, j + 1, by have := HIJ.out; omega, hlt2, by go_num, ⟨_, c5, _, rfl, h1, HSN.out, .inr ⟨g5, rfl⟩⟩, ?_, hnn⟩
            refine (hB.alloc hB.size _).grown h2 (by simp; have := hB.size; omega) (fun q e => ?_)
            rcases HCA.out with ⟨_, rfl, _⟩ | ⟨g4, rfl⟩
            · simp [Value.ownBlock] at e
            · simp [Value.ownBlock] at e; have := (row_room HO.out).2.1; omega
          have HFI := hide fin
          have hzr := hB.size
          clear fin
          by_cases hi0 : i = 0
          · have HGO : Hid (names ks = namesFrom ks (ks.length + 1 - (j + 1)) (i + 2)) := hide (by rw [HNX.out, HNA.out, hi0]; simp)
            subst hi0
            rw [Nat.add_zero] at e0
            rw [Nat.zero_add] at e1
            go_wp2_with (at_builtin; refine wpList_append_own_at _ rfl _ _ 90 rfl w.heap.size 95 iF _ 2 32 Try.underlying90 hF hFz hFs hFb rfl (by decide) (.slice a4 j c4) j fvs rfl (HO.out.alloc _) ⟨wr.heap.size, 0, none⟩ 1 1 [.string tx, .iface y2 u2] rfl rfl (cells_two _ _ _ _) (by simp [Value.oneCell']) (by unfold maxLen; have := HIJ.out; omega) (by have := HIJ.out; omega) (by simp; omega) ?_)
            intro v5 w5 h1 h2 h3 h4
            have HX2 : Hid _ := hide (HFI.out HGO.out v5 w5 h1 h2)
            clear h1 h2 h3 h4
            go_wp2
            go_roundw
            case rel => exact HX2.out
            case measure => simp [intOf]; omega
          · obtain ⟨g4, rfl, hg4, hg4w, hpc, hj1⟩ := HT2.out hi0
            have hg0 : (0 : Int) < (i : Int) := by omega
            have hi0' : (i == 0) = false := by simpa using hi0
            rw [hi0'] at HNA
            obtain ⟨j', rfl⟩ : ∃ j', j = j' + 1 := ⟨j - 1, by omega⟩
            rw [Nat.add_sub_cancel] at hpc
            generalize (ks[i - 2]?.map T.text).getD ⟨#[]⟩ = pv at *
            have hjl : j' < 1000 := by have := HIJ.out; omega
            have hlt' := less_total tx.toList pv.toList
            have HLT := hide hlt'
            clear hlt'
            cases hsl : slt pv tx
            · have hq : (Go.Op.bytesLess tx.toList pv.toList || (tx.toList == pv.toList)) = true := by rw [HLT.out]; have : Go.Op.bytesLess pv.toList tx.toList = false := hsl; rw [this]; rfl
              have HNO : Hid (names ks = false) := hide (by rw [HNX.out, HNA.out, hsl]; rfl)
              have HFIN : Hid (FPost w x ks (.returned (.tuple #[.slice none 0 0, .bool false])) wr) := hide (fpost_no HNO.out hB)
              go_wp2
              exact bodyPost_ret (v := .tuple #[.slice none 0 0, .bool false]) (by simp [results, Try.results73, go_sem]) rfl HFIN.out
            · have hq : (Go.Op.bytesLess tx.toList pv.toList || (tx.toList == pv.toList)) = false := by rw [HLT.out]; have : Go.Op.bytesLess pv.toList tx.toList = true := hsl; rw [this]; rfl
              have HGO : Hid (names ks = namesFrom ks (ks.length + 1 - (j' + 1 + 1)) (i + 2)) := hide (by rw [HNX.out, HNA.out, hsl]; simp)
              go_wp2_with (at_builtin; refine wpList_append_own_at _ rfl _ _ 90 rfl w.heap.size 95 iF _ 2 32 Try.underlying90 hF hFz hFs hFb rfl (by decide) (.slice (some ⟨g4, 0, none⟩) (j' + 1) c4) (j' + 1) fvs rfl (HO.out.alloc _) ⟨wr.heap.size, 0, none⟩ 1 1 [.string tx, .iface y2 u2] rfl rfl (cells_two _ _ _ _) (by simp [Value.oneCell']) (by unfold maxLen; omega) (by omega) (by simp; omega) ?_)
              intro v5 w5 h1 h2 h3 h4
              have HX2 : Hid _ := hide (HFI.out HGO.out v5 w5 h1 h2)
              clear h1 h2 h3 h4
              go_wp2
              go_roundw
              case rel => exact HX2.out
              case measure => simp [intOf]; omega
        · obtain ⟨y, u, rfl, hy⟩ := hdv.other hk
          have ht := fun w => ta_text_no y u w hy
          have HNO : Hid (names ks = false) := hide (by rw [HNX.out, HNA.out, show ((ks[i]).kind == 4) = false from by simpa using hk]; rfl)
          have HFIN : Hid (FPost w x ks (.returned (.tuple #[.slice none 0 0, .bool false])) wr) := hide (fpost_no HNO.out hB)
          clear hdv
          go_wp2
          exact bodyPost_ret (v := .tuple #[.slice none 0 0, .bool false]) (by simp [results, Try.results73, go_sem]) rfl HFIN.out
      · have HY : Hid (names ks = true) := hide (by
          rw [HN.out]
          cases hf : ks.length + 1 - j with
          | zero => rfl
          | succ f => rw [namesFrom, if_neg hlt])
        have HFIN : Hid (FPost w x ks (.returned (.tuple #[.slice a4 j c4, .bool true])) wr) := hide (by
          have hil : i = ks.length := by omega
          have hij := HIJ.out
          refine .inl ⟨HY.out, a4, c4, fvs, j, by omega, rfl, by have := HFL.out; rwa [List.take_of_length_le (by omega)] at this, ?_, ?_, hB⟩
          · rcases HCA.out with ⟨h, h2, h3⟩ | ⟨g4, rfl⟩
            · refine .inl ?_
              have := (FldL.len HFL.out).1
              rw [List.length_take] at this
              exact List.length_eq_zero_iff.1 (by omega)
            · have hr := row_room HO.out
              exact .inr ⟨g4, 0, rfl, by have := HX.out; omega, hr.2.2, row_cells HO.out⟩
          · rcases HCA.out with ⟨h, h2, h3⟩ | ⟨g4, rfl⟩
            · omega
            · exact (row_room HO.out).1)
        go_wp2
        exact bodyPost_ret (v := .tuple #[.slice a4 j c4, .bool true]) (by simp [results, Try.results73, go_sem]) rfl HFIN.out
  · have hev : ¬ ((ks.length : Int) % 2 = 0) := by omega
    have HFIN : Hid (FPost w x ks (.returned (.tuple #[.slice none 0 0, .bool false])) w) := hide (fpost_no (names_odd ks (by omega)) (Below.refl _ _))
    go_enter Try.func73, Try.ntmps73
    go_wp2
    exact bodyPost_ret (v := .tuple #[.slice none 0 0, .bool false]) (by simp [results, Try.results73, go_sem]) rfl HFIN.out
end Go.Proofs.Ytfpdoafpimaoaaa.Vl
