/- Walks: perform with one arg, on the program's side. -/
import Derived.Test.YtfpdoafpimaoaaaUc
namespace Go.Proofs.Ytfpdoafpimaoaaa.Vl
open Go.RowKit T.atoms T.ok T.high T.good T.allPlain

theorem PB.start {w w1 : World} {fv : Value} (hown : w1.ownsRow w.heap.size 49 1 (.slice (some ⟨w.heap.size + 1 + 1, 0, none⟩) 1 1) 1 (madeCells #[.nilIface] 1).toList) (hgrow : ((w.alloc (.cells #[.int .i64 1, fv] 66)).alloc (.cells #[.slice none 0 0] 25)).grownBy w1 none) : PB w fv .nilIface w1 := by
  have b0 : Below ((w.alloc (.cells #[.int .i64 1, fv] 66)).alloc (.cells #[.slice none 0 0] 25)).heap.size ((w.alloc (.cells #[.int .i64 1, fv] 66)).alloc (.cells #[.slice none 0 0] 25)) w1 := (Below.refl _ _).grown hgrow (Nat.le_refl _) (fun q e => by cases e)
  have r1 : Below w.heap.size w ((w.alloc (.cells #[.int .i64 1, fv] 66)).alloc (.cells #[.slice none 0 0] 25)) := ((Below.refl _ _).alloc (Nat.le_refl _) _).alloc (by simp) _
  have n2 := cell_new (w.alloc (.cells #[.int .i64 1, fv] 66)) (.slice none 0 0) 25
  have b2 : Below (w.alloc (.cells #[.int .i64 1, fv] 66)).heap.size (w.alloc (.cells #[.int .i64 1, fv] 66)) ((w.alloc (.cells #[.int .i64 1, fv] 66)).alloc (.cells #[.slice none 0 0] 25)) := (Below.refl _ _).alloc (Nat.le_refl _) _
  have n1 : (w.alloc (.cells #[.int .i64 1, fv] 66)).cell? ⟨w.heap.size, 1, none⟩ = some fv := by simp
  simp only [World.size_alloc] at n2
  have hv := hown.cellAt 0 (by omega)
  have hf := hown.frozenAt 0
  have hz := (hown.lt _ rfl).2
  refine ⟨r1.trans (b0.mono r1.size), (b0.cell (p := ⟨w.heap.size, 1, none⟩) (by simp; omega)).trans ((b2.cell (p := ⟨w.heap.size, 1, none⟩) (by simp)).trans n1), (b0.cell (p := ⟨w.heap.size + 1, 0, none⟩) (by simp)).trans n2.1, (b0.frozen (p := ⟨w.heap.size + 1, 0, none⟩) (by simp)).trans n2.2, hv.trans (by simp [madeCells]), hf, hz⟩

def PVal (w : World) (B : Nat) (v : Value) (r : List At) : Prop := (v = .slice none 0 0 ∧ r = []) ∨ ∃ a, r = [a] ∧ OneV w B v a
def PPost (w : World) (r : List At × List UInt8) (e : Ending) (w' : World) : Prop := ∃ v, e = .returned (.tuple #[.agg #[v], .string (txt r.2)]) ∧ PVal w' w.heap.size v r.1 ∧ Below w.heap.size w w'
theorem ppost_no {w w' : World} {r : List At × List UInt8} {s : List UInt8} (h : r = ([], s)) (hb : Below w.heap.size w w') : PPost w r (.returned (.tuple #[.agg #[.slice none 0 0], .string (txt s)])) w' := by
  subst h; exact ⟨_, rfl, .inl ⟨rfl, rfl⟩, hb⟩

set_option maxRecDepth 100000 in
set_option maxHeartbeats 1000000 in
theorem perform_bad (r : List At × List UInt8) (f b g c n gv : Nat) (l : List At) (w : World) (hr : r = ([], wType)) (hv : valid l = false) (hn : l.length = n) (hl : l.length ≤ 1048576) (ht : AtomsO w g 0 l) (hgv : gv < w.heap.size) (hc : w.cell? ⟨gv, 0, none⟩ = some (.slice (some ⟨g, 0, none⟩) n c)) :
    Calls Try.prog 35 #[deedV 1 f b, .slice (some ⟨gv, 0, none⟩) 1 1] w fun e w' => PPost w r e w' := by
  have HR := hide hr
  have HD := hide (fun w' (hb : Below w.heap.size w w') => datumOf_any l g c w' hl (ht.below hb))
  rw [hn] at HD
  unfold DPost at HD
  rw [hv] at HD
  clear ht hv hl hr hn
  unfold deedV
  have hf := fn_nil f b
  obtain ⟨iD, hDi, hDz, hDs, hDb⟩ := info_parts Try.infoDat
  go_enter Try.func35, Try.ntmps35
  go_wp2_with (at_make; refine wpList_make_full _ rfl _ _ 74 rfl w.heap.size 49 iD _ 1 Try.underlying74 hDi hDz hDs _ _ _ _ 1 rfl rfl rfl rfl (by rw [hDb]; omega) (by unfold maxLen; omega) (by simp; omega) ?_)
  intro w1 hown hgrow
  have HP := hide (PB.start hown hgrow)
  clear hown hgrow hf
  go_wp2_with fail
  go_loopw [29] (fun t wr => t = .int .i64 0 ∧ PB w (.func (.func f) #[] #[.pointer (some ⟨b, 0, none⟩)]) .nilIface wr) (fun _ _ => 0)
  case atStart => exact ⟨rfl, HP.out⟩
  case round =>
    obtain ⟨rfl, p⟩ := hrel
    have cc := (p.B.cell (p := ⟨gv, 0, none⟩) hgv).trans hc
    go_wp2_with fail
    have p2 := p.below (W' := wr.alloc (.cells #[.slice (some ⟨g, 0, none⟩) n c] 25)) ((Below.refl _ _).alloc (Nat.le_refl _) _)
    refine (HD.out _ p2.B).mono ?_
    rintro e w2 ⟨hb2, v, rfl, hd⟩
    have p3 := p2.below hb2
    have cr := p3.r
    have fr := p3.f
    clear hb2 hd cc p p2
    go_wp2
    refine bodyPost_ret (v := .tuple #[.agg #[.slice none 0 0], .string (txt wType)]) (by simp [results, Try.results35, go_sem, cr, txt, wType]) rfl (ppost_no HR.out (p3.set _))
end Go.Proofs.Ytfpdoafpimaoaaa.Vl
