/- Walks: rows of values compared, on the program's side. -/
import Derived.Test.YtfpdoafpimaoaaaOc
import Derived.Test.YtfpdoafpimaoaaaOb
namespace Go.Proofs.Ytfpdoafpimaoaaa.Vl
open Go.RowKit T.atoms T.ok T.high T.good T.allPlain DatAt T.ord

def cmpFn : Value := .func (.func 25) #[] #[]
def cmpFldFn : Value := .func (.func 50) #[] #[]

set_option maxRecDepth 100000 in
set_option maxHeartbeats 1000000 in
theorem cmpFuncD_any (p q : List T) (vs us : List Value) (a b : Option Addr) (ca cb x y : Nat) (w : World) (hp : p.length ≤ 1000) (hq : q.length ≤ 1000) (hD : DatL w x p vs) (hE : DatL w y q us) (hR : RowAt w x a vs) (hS : RowAt w y b us)
    (hC : ∀ i (h1 : i < p.length) (h2 : i < q.length) v u w', DatAt w' x p[i] v → DatAt w' y q[i] u → Calls Try.prog 25 #[v, u] w' fun e w'' => e = .returned (.int .i64 ((p[i]).ord q[i])) ∧ Below w'.heap.size w' w'') :
    Calls Try.prog 48 #[.slice a p.length ca, .slice b q.length cb, .func (.func 25) #[] #[]] w fun e w' => e = .returned (.int .i64 (ordL p q)) ∧ Below w.heap.size w w' := by
  have HD := hide hD
  have HE := hide hE
  have HR := hide hR
  have HS := hide hS
  have HC := hide hC
  clear hD hE hR hS hC
  go_enter Try.func48, Try.ntmps48
  go_wp2
  go_loopw [13] (fun t wr => ∃ i : Nat, i ≤ p.length ∧ i ≤ q.length ∧ t = .int .i64 i ∧ Below w.heap.size w wr ∧ ordL p q = ordL (p.drop i) (q.drop i)) (fun t _ => p.length - (intOf t).toNat)
  case atStart => exact ⟨0, by omega, by omega, rfl, Below.refl _ _, by rw [List.drop_zero, List.drop_zero]⟩
  case round =>
    obtain ⟨i, hi, hj, rfl, hB, he⟩ := hrel
    have HZ := hide he
    clear he
    by_cases hlt : i < p.length
    · obtain ⟨v, hv, hdv⟩ := DatL.at HD.out i hlt
      have hne : vs ≠ [] := fun e => by rw [e] at hv; simp at hv
      rcases HR.out with h | ⟨g, o, rfl, -, hgw, hcs⟩
      · exact absurd h hne
      have e0 := (hB.cell (p := ⟨g, o + i, none⟩) hgw).trans (hcs i v hv)
      have HDV := hide (DatAt.moves (Moves.below (x := x) hB) _ _ hdv)
      clear hv hdv hne hcs
      by_cases hlt2 : i < q.length
      · obtain ⟨u, hu, hdu⟩ := DatL.at HE.out i hlt2
        have hne : us ≠ [] := fun e => by rw [e] at hu; simp at hu
        rcases HS.out with h | ⟨g2, o2, rfl, -, hgw2, hcs2⟩
        · exact absurd h hne
        have e1 := (hB.cell (p := ⟨g2, o2 + i, none⟩) hgw2).trans (hcs2 i u hu)
        have HDU := hide (DatAt.moves (Moves.below (x := y) hB) _ _ hdu)
        have HCC := hide (HC.out i hlt hlt2 v u wr HDV.out HDU.out)
        have HST := hide (ordL_step p q i hlt hlt2)
        generalize (p[i]).ord q[i] = od at *
        clear hu hdu hne hcs2
        by_cases hod : od = 0
        · have HGO : Hid (ordL p q = ordL (p.drop (i + 1)) (q.drop (i + 1))) := hide (by rw [HZ.out, HST.out, if_neg (by simpa using hod)])
          subst hod
          go_wp2_with fail
          refine HCC.out.mono ?_
          rintro e w1 ⟨rfl, hb1⟩
          go_wp2
          go_roundw
          case rel => exact ⟨i + 1, by omega, by omega, by go_num, hB.trans (hb1.mono hB.size), HGO.out⟩
          case measure => simp [intOf]; omega
        · have HGO : Hid (ordL p q = od) := hide (by rw [HZ.out, HST.out, if_pos hod])
          go_wp2_with fail
          refine HCC.out.mono ?_
          rintro e w1 ⟨rfl, hb1⟩
          go_wp2
          go_ret
          exact ⟨ret_int HGO.out.symm, hB.trans (hb1.mono hB.size)⟩
      · have HGO : Hid (ordL p q = 1) := hide (by
          rw [HZ.out, ordL_end p q i (by omega) hi hj]
          unfold cmpB; rw [if_neg (by simp; omega), if_neg (by simp; omega)])
        go_wp2
        go_ret
        exact ⟨ret_int HGO.out.symm, hB⟩
    · have HEN := hide (ordL_end p q i (by omega) hi hj)
      by_cases hll : (p.length : Int) < (q.length : Int)
      · have HGO : Hid (ordL p q = -1) := hide (by
          rw [HZ.out, HEN.out]
          unfold cmpB; rw [if_neg (by simp; omega), if_pos (by simp; omega)])
        go_wp2
        go_ret
        exact ⟨ret_int HGO.out.symm, hB⟩
      · have HGO : Hid (ordL p q = 0) := hide (by
          rw [HZ.out, HEN.out]
          unfold cmpB; rw [if_pos (by simp; omega)])
        go_wp2
        go_ret
        exact ⟨ret_int HGO.out.symm, hB⟩
end Go.Proofs.Ytfpdoafpimaoaaa.Vl
