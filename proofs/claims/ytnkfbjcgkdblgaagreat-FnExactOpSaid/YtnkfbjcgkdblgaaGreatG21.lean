/- Joined: Ei. -/
import Derived.Test.YtnkfbjcgkdblgaaGreatG20
namespace Go.Proofs.YtnkfbjcgkdblgaaGreat.Vl
open Go.RowKit T.atoms T.ok T.high T.good T.allPlain DatAt T.ord

theorem en_of {f : FuncId} {fn : Func} (hfn : Tryz.prog.funcs[f]? = some fn) (hne : (fn.name == "runtime.NumGoroutine") = false) (hbd : fn.body.isNone = false) (args : Array Value) (w : World) : (callFunc f args).run Tryz.prog w = .ok (.enter f args) w := by
  simp only [callFunc, Sem.run_bind, run_program, Result.andThen_ok, hfn, hne, hbd]; rfl
/-- The library's own variable holds a number. -/
def GI (W : World) : Prop := ∃ m : Int, W.cell? ⟨0, 0, none⟩ = some (.int .i64 m)
theorem GI.below {W W' : World} (h : GI W) (hb : Below W.heap.size W W') : GI W' := by
  obtain ⟨m, hm⟩ := h
  exact ⟨m, (hb.cell (p := ⟨0, 0, none⟩) (World.block_lt_of_cell? W ⟨0, 0, none⟩ hm)).trans hm⟩
/-- Some blocks are as they were. -/
def Same (lo hi : Nat) (w W : World) : Prop := hi ≤ W.heap.size ∧ ∀ q, lo ≤ q → q < hi → W.heap[q]? = w.heap[q]?
theorem Same.refl {lo hi : Nat} {w : World} (h : hi ≤ w.heap.size) : Same lo hi w w := ⟨h, fun _ _ _ => rfl⟩
theorem Same.trans {lo hi : Nat} {w W W' : World} (h : Same lo hi w W) (h' : Same lo hi W W') : Same lo hi w W' := ⟨h'.1, fun q a b => (h'.2 q a b).trans (h.2 q a b)⟩
theorem Same.below {lo hi : Nat} {w W W' : World} (h : Same lo hi w W) (hb : Below W.heap.size W W') : Same lo hi w W' := ⟨Nat.le_trans h.1 hb.size, fun q a b => (hb.block q (Nat.lt_of_lt_of_le b h.1)).trans (h.2 q a b)⟩
theorem Same.grown {lo hi m : Nat} {w W W' : World} (h : Same lo hi w W) (hg : W.grownBy W' (some m)) (hm : m < lo) : Same lo hi w W' := ⟨Nat.le_trans h.1 hg.size, fun q a b => (hg.block q (Nat.lt_of_lt_of_le b h.1) (fun e => by have := Option.some.inj e; omega)).trans (h.2 q a b)⟩
theorem Same.sub {lo hi lo' hi' : Nat} {w W : World} (h : Same lo hi w W) (h1 : lo ≤ lo') (h2 : hi' ≤ hi) : Same lo' hi' w W := ⟨Nat.le_trans h2 h.1, fun q a b => h.2 q (Nat.le_trans h1 a) (Nat.lt_of_lt_of_le b h2)⟩
theorem Same.cell {lo hi : Nat} {w W : World} (h : Same lo hi w W) (q o : Nat) (h1 : lo ≤ q) (h2 : q < hi) : W.cell? ⟨q, o, none⟩ = w.cell? ⟨q, o, none⟩ := World.cell?_of_block (a := ⟨q, o, none⟩) (h.2 q h1 h2)
structure DeedAt (lo hi : Nat) (w : World) (f b : Nat) (R : T → T → Out) : Prop where
  size : hi ≤ w.heap.size
  en : ∀ args w, (callFunc f args).run Tryz.prog w = .ok (.enter f args) w
  does : ∀ W, Same lo hi w W → GI W → ∀ t u, t.good = true → u.good = true → t.count ≤ 1000 → u.count ≤ 1000 → in64 t.num → in64 u.num → ∀ (gg x y : Nat) (xa xb : Value), gg < W.heap.size → W.cell? ⟨gg, 0, none⟩ = some xa → W.cell? ⟨gg, 1, none⟩ = some xb → DatAt W x t xa → DatAt W y u xb → Calls Tryz.prog f #[.slice (some ⟨gg, 0, none⟩) 2 2, .pointer (some ⟨b, 0, none⟩)] W (TupPost (DoK W (R t u)))
theorem DeedAt.same {lo hi : Nat} {w W : World} {f b : Nat} {R : T → T → Out} (h : DeedAt lo hi w f b R) (hs : Same lo hi w W) : DeedAt lo hi W f b R := ⟨hs.1, h.en, fun W' hw => h.does W' (hs.trans hw)⟩
theorem DeedAt.wide {lo hi lo' hi' : Nat} {w : World} {f b : Nat} {R : T → T → Out} (h : DeedAt lo hi w f b R) (h1 : lo' ≤ lo) (h2 : hi ≤ hi') (h3 : hi' ≤ w.heap.size) : DeedAt lo' hi' w f b R := ⟨h3, h.en, fun W' hw => h.does W' (hw.sub h1 h2)⟩
theorem DeedAt.now {lo hi : Nat} {w : World} {f b : Nat} {R : T → T → Out} (h : DeedAt lo hi w f b R) {t u : T} (hg : t.good = true) (hg' : u.good = true) (hc : t.count ≤ 1000) (hc' : u.count ≤ 1000) (hi : in64 t.num) (hi' : in64 u.num) (hG : GI w) : Does w f b t u (R t u) :=
  fun W' hb gg x y xa xb a1 a2 a3 a4 a5 => h.does W' ((Same.refl h.size).below hb) (hG.below hb) t u hg hg' hc hc' hi hi' gg x y xa xb a1 a2 a3 a4 a5
theorem tup_from {W W1 : World} {out : Out} (hb : Below W.heap.size W W1) (e : Ending) (w' : World) (h : TupPost (DoK W1 out) e w') : TupPost (DoK W out) e w' := by
  obtain ⟨dv, s, h1, h2⟩ := h
  exact ⟨dv, s, h1, h2.from hb⟩
theorem tup_type {W : World} (e : Ending) (w' : World) (h : e = .returned (.tuple #[.nilIface, .string ⟨#[116, 121, 112, 101]⟩]) ∧ Below W.heap.size W w') : TupPost (DoK W (.inl tyW)) e w' := ⟨_, _, h.1, h.2, rfl, rfl⟩
theorem formB {w : World} {x : Nat} {t : T} {v : Value} (h : DatAt w x t v) : (t.kind = 2 → ∃ b : Bool, v = .iface 83 (.bool b)) ∧ (¬ t.kind = 2 → ∃ y u, v = .iface y u ∧ ¬ y = 83) := by
  cases t with
  | mk k n s ks =>
    rw [DatAt] at h
    show (k = 2 → _) ∧ (¬ k = 2 → _)
    rcases h with ⟨rfl, rfl⟩ | ⟨rfl, rfl⟩ | ⟨rfl, rfl⟩ | ⟨rfl, rfl⟩ | ⟨rfl, p, c, vs, rfl, _⟩ | ⟨rfl, p, c, m, vs, _, rfl, _⟩
    all_goals
      refine ⟨fun h => ?_, fun h => ?_⟩
      all_goals first | (exfalso; revert h; decide) | exact ⟨_, rfl⟩ | exact ⟨_, _, _, _, _, rfl⟩ | exact ⟨_, _, rfl, by decide⟩
theorem formI {w : World} {x : Nat} {t : T} {v : Value} (h : DatAt w x t v) : (t.kind = 3 → ∃ n : Int, v = .iface 103 (.int .i64 n)) ∧ (¬ t.kind = 3 → ∃ y u, v = .iface y u ∧ ¬ y = 103) := by
  cases t with
  | mk k n s ks =>
    rw [DatAt] at h
    show (k = 3 → _) ∧ (¬ k = 3 → _)
    rcases h with ⟨rfl, rfl⟩ | ⟨rfl, rfl⟩ | ⟨rfl, rfl⟩ | ⟨rfl, rfl⟩ | ⟨rfl, p, c, vs, rfl, _⟩ | ⟨rfl, p, c, m, vs, _, rfl, _⟩
    all_goals
      refine ⟨fun h => ?_, fun h => ?_⟩
      all_goals first | (exfalso; revert h; decide) | exact ⟨_, rfl⟩ | exact ⟨_, _, _, _, _, rfl⟩ | exact ⟨_, _, rfl, by decide⟩
theorem formT {w : World} {x : Nat} {t : T} {v : Value} (h : DatAt w x t v) : (t.kind = 4 → ∃ s : ByteArray, v = .iface 89 (.string s)) ∧ (¬ t.kind = 4 → ∃ y u, v = .iface y u ∧ ¬ y = 89) := by
  cases t with
  | mk k n s ks =>
    rw [DatAt] at h
    show (k = 4 → _) ∧ (¬ k = 4 → _)
    rcases h with ⟨rfl, rfl⟩ | ⟨rfl, rfl⟩ | ⟨rfl, rfl⟩ | ⟨rfl, rfl⟩ | ⟨rfl, p, c, vs, rfl, _⟩ | ⟨rfl, p, c, m, vs, _, rfl, _⟩
    all_goals
      refine ⟨fun h => ?_, fun h => ?_⟩
      all_goals first | (exfalso; revert h; decide) | exact ⟨_, rfl⟩ | exact ⟨_, _, _, _, _, rfl⟩ | exact ⟨_, _, rfl, by decide⟩
theorem formL {w : World} {x : Nat} {t : T} {v : Value} (h : DatAt w x t v) : (t.kind = 5 → ∃ (p : Option Addr) (n c : Nat) (a d : Int), v = .iface 95 (.agg #[.slice p n c, .int .i64 a, .int .i64 d])) ∧ (¬ t.kind = 5 → ∃ y u, v = .iface y u ∧ ¬ y = 95) := by
  cases t with
  | mk k n s ks =>
    rw [DatAt] at h
    show (k = 5 → _) ∧ (¬ k = 5 → _)
    rcases h with ⟨rfl, rfl⟩ | ⟨rfl, rfl⟩ | ⟨rfl, rfl⟩ | ⟨rfl, rfl⟩ | ⟨rfl, p, c, vs, rfl, _⟩ | ⟨rfl, p, c, m, vs, _, rfl, _⟩
    all_goals
      refine ⟨fun h => ?_, fun h => ?_⟩
      all_goals first | (exfalso; revert h; decide) | exact ⟨_, rfl⟩ | exact ⟨_, _, _, _, _, rfl⟩ | exact ⟨_, _, rfl, by decide⟩
theorem formR {w : World} {x : Nat} {t : T} {v : Value} (h : DatAt w x t v) : (t.kind = 6 → ∃ (p : Option Addr) (n c : Nat) (a d : Int), v = .iface 100 (.agg #[.slice p n c, .int .i64 a, .int .i64 d])) ∧ (¬ t.kind = 6 → ∃ y u, v = .iface y u ∧ ¬ y = 100) := by
  cases t with
  | mk k n s ks =>
    rw [DatAt] at h
    show (k = 6 → _) ∧ (¬ k = 6 → _)
    rcases h with ⟨rfl, rfl⟩ | ⟨rfl, rfl⟩ | ⟨rfl, rfl⟩ | ⟨rfl, rfl⟩ | ⟨rfl, p, c, vs, rfl, _⟩ | ⟨rfl, p, c, m, vs, _, rfl, _⟩
    all_goals
      refine ⟨fun h => ?_, fun h => ?_⟩
      all_goals first | (exfalso; revert h; decide) | exact ⟨_, rfl⟩ | exact ⟨_, _, _, _, _, rfl⟩ | exact ⟨_, _, rfl, by decide⟩
/-- What is asked of a function of such args. -/
def LeafBB (f : FuncId) (R : T → T → Out) : Prop := ∀ (W : World) (t u : T) (x y : Nat) (xb : Bool) (zb : Bool), GI W → t.good = true → u.good = true → t.count ≤ 1000 → u.count ≤ 1000 → in64 t.num → in64 u.num → DatAt W x t (.iface 83 (.bool xb)) → DatAt W y u (.iface 83 (.bool zb)) → Calls Tryz.prog f #[.bool xb, .bool zb] W (TupPost (DoK W (R t u)))
def twoBB (R : T → T → Out) (t u : T) : Out := if t.kind = 2 ∧ u.kind = 2 then R t u else .inl tyW
theorem deedBB {w w' : World} {f : FuncId} {R : T → T → Out} (hen : ∀ args w, (callFunc f args).run Tryz.prog w = .ok (.enter f args) w) (hm : w'.cell? ⟨w.heap.size, 0, none⟩ = some (.func (.func f) #[] #[])) (hz : w.heap.size < w'.heap.size) (hR : LeafBB f R) : DeedAt w.heap.size (w.heap.size + 1) w' 77 w.heap.size (twoBB R) := by
  refine ⟨hz, en_of Tryz.func77 (by kernel_rfl) (by kernel_rfl), fun W hs hG t u hg hg' hc hc' hi hi' gg x y xa xb h1 h2 h3 h4 h5 => ?_⟩
  have hk := (hs.cell w.heap.size 0 (Nat.le_refl _) (Nat.lt_succ_self _)).trans hm
  have hkl : w.heap.size < W.heap.size := hs.1
  unfold twoBB
  by_cases ha : t.kind = 2
  · obtain ⟨xb, rfl⟩ := (formB h4).1 ha
    by_cases hb : u.kind = 2
    · obtain ⟨zb, rfl⟩ := (formB h5).1 hb
      rw [if_pos ⟨ha, hb⟩]
      exact twoBB_yes f xb zb gg w.heap.size _ W h2 h3 hk h1 hkl hen (hide (fun W' hb => (hR W' t u x y xb zb (hG.below hb) hg hg' hc hc' hi hi' (h4.moves (Moves.below hb)) (h5.moves (Moves.below hb))).mono (tup_from hb)))
    · obtain ⟨y1, u1, rfl, hy⟩ := (formB h5).2 hb
      rw [if_neg (fun h => hb h.2)]
      exact (twoBB_no2 xb y1 u1 hy gg w.heap.size W h2 h3 h1).mono tup_type
  · obtain ⟨y1, u1, rfl, hy⟩ := (formB h4).2 ha
    rw [if_neg (fun h => ha h.1)]
    exact (twoBB_no1 y1 u1 hy gg w.heap.size W h2).mono tup_type
/-- What is asked of a function of such args. -/
def LeafTT (f : FuncId) (R : T → T → Out) : Prop := ∀ (W : World) (t u : T) (x y : Nat) (xs : ByteArray) (zs : ByteArray), GI W → t.good = true → u.good = true → t.count ≤ 1000 → u.count ≤ 1000 → in64 t.num → in64 u.num → DatAt W x t (.iface 89 (.string xs)) → DatAt W y u (.iface 89 (.string zs)) → Calls Tryz.prog f #[.string xs, .string zs] W (TupPost (DoK W (R t u)))
def twoTT (R : T → T → Out) (t u : T) : Out := if t.kind = 4 ∧ u.kind = 4 then R t u else .inl tyW
theorem deedTT {w w' : World} {f : FuncId} {R : T → T → Out} (hen : ∀ args w, (callFunc f args).run Tryz.prog w = .ok (.enter f args) w) (hm : w'.cell? ⟨w.heap.size, 0, none⟩ = some (.func (.func f) #[] #[])) (hz : w.heap.size < w'.heap.size) (hR : LeafTT f R) : DeedAt w.heap.size (w.heap.size + 1) w' 86 w.heap.size (twoTT R) := by
  refine ⟨hz, en_of Tryz.func86 (by kernel_rfl) (by kernel_rfl), fun W hs hG t u hg hg' hc hc' hi hi' gg x y xa xb h1 h2 h3 h4 h5 => ?_⟩
  have hk := (hs.cell w.heap.size 0 (Nat.le_refl _) (Nat.lt_succ_self _)).trans hm
  have hkl : w.heap.size < W.heap.size := hs.1
  unfold twoTT
  by_cases ha : t.kind = 4
  · obtain ⟨xs, rfl⟩ := (formT h4).1 ha
    by_cases hb : u.kind = 4
    · obtain ⟨zs, rfl⟩ := (formT h5).1 hb
      rw [if_pos ⟨ha, hb⟩]
      exact twoTT_yes f xs zs gg w.heap.size _ W h2 h3 hk h1 hkl hen (hide (fun W' hb => (hR W' t u x y xs zs (hG.below hb) hg hg' hc hc' hi hi' (h4.moves (Moves.below hb)) (h5.moves (Moves.below hb))).mono (tup_from hb)))
    · obtain ⟨y1, u1, rfl, hy⟩ := (formT h5).2 hb
      rw [if_neg (fun h => hb h.2)]
      exact (twoTT_no2 xs y1 u1 hy gg w.heap.size W h2 h3 h1).mono tup_type
  · obtain ⟨y1, u1, rfl, hy⟩ := (formT h4).2 ha
    rw [if_neg (fun h => ha h.1)]
    exact (twoTT_no1 y1 u1 hy gg w.heap.size W h2).mono tup_type
/-- What is asked of a function of such args. -/
def LeafLD (f : FuncId) (R : T → T → Out) : Prop := ∀ (W : World) (t u : T) (x y : Nat) (xp : Option Addr) (xn xc : Nat) (xa xd : Int) (zy : TypeId) (zu : Value), GI W → t.good = true → u.good = true → t.count ≤ 1000 → u.count ≤ 1000 → in64 t.num → in64 u.num → DatAt W x t (.iface 95 (.agg #[.slice xp xn xc, .int .i64 xa, .int .i64 xd])) → DatAt W y u (.iface zy zu) → Calls Tryz.prog f #[.agg #[.slice xp xn xc, .int .i64 xa, .int .i64 xd], .iface zy zu] W (TupPost (DoK W (R t u)))
def twoLD (R : T → T → Out) (t u : T) : Out := if t.kind = 5 then R t u else .inl tyW
theorem deedLD {w w' : World} {f : FuncId} {R : T → T → Out} (hen : ∀ args w, (callFunc f args).run Tryz.prog w = .ok (.enter f args) w) (hm : w'.cell? ⟨w.heap.size, 0, none⟩ = some (.func (.func f) #[] #[])) (hz : w.heap.size < w'.heap.size) (hR : LeafLD f R) : DeedAt w.heap.size (w.heap.size + 1) w' 88 w.heap.size (twoLD R) := by
  refine ⟨hz, en_of Tryz.func88 (by kernel_rfl) (by kernel_rfl), fun W hs hG t u hg hg' hc hc' hi hi' gg x y xa xb h1 h2 h3 h4 h5 => ?_⟩
  have hk := (hs.cell w.heap.size 0 (Nat.le_refl _) (Nat.lt_succ_self _)).trans hm
  have hkl : w.heap.size < W.heap.size := hs.1
  unfold twoLD
  by_cases ha : t.kind = 5
  · obtain ⟨xp, xn, xc, xa, xd, rfl⟩ := (formL h4).1 ha
    obtain ⟨zy, zu, rfl, hdt⟩ := dty_of h5
    rw [if_pos ha]
    exact twoLD_yes f xp xn xc xa xd zy zu hdt gg w.heap.size _ W h2 h3 hk h1 hkl hen (hide (fun W' hb => (hR W' t u x y xp xn xc xa xd zy zu (hG.below hb) hg hg' hc hc' hi hi' (h4.moves (Moves.below hb)) (h5.moves (Moves.below hb))).mono (tup_from hb)))
  · obtain ⟨y1, u1, rfl, hy⟩ := (formL h4).2 ha
    rw [if_neg ha]
    exact (twoLD_no1 y1 u1 hy gg w.heap.size W h2).mono tup_type
/-- What is asked of a function of such args. -/
def LeafRT (f : FuncId) (R : T → T → Out) : Prop := ∀ (W : World) (t u : T) (x y : Nat) (xp : Option Addr) (xn xc : Nat) (xa xd : Int) (zs : ByteArray), GI W → t.good = true → u.good = true → t.count ≤ 1000 → u.count ≤ 1000 → in64 t.num → in64 u.num → DatAt W x t (.iface 100 (.agg #[.slice xp xn xc, .int .i64 xa, .int .i64 xd])) → DatAt W y u (.iface 89 (.string zs)) → Calls Tryz.prog f #[.agg #[.slice xp xn xc, .int .i64 xa, .int .i64 xd], .string zs] W (TupPost (DoK W (R t u)))
def twoRT (R : T → T → Out) (t u : T) : Out := if t.kind = 6 ∧ u.kind = 4 then R t u else .inl tyW
theorem deedRT {w w' : World} {f : FuncId} {R : T → T → Out} (hen : ∀ args w, (callFunc f args).run Tryz.prog w = .ok (.enter f args) w) (hm : w'.cell? ⟨w.heap.size, 0, none⟩ = some (.func (.func f) #[] #[])) (hz : w.heap.size < w'.heap.size) (hR : LeafRT f R) : DeedAt w.heap.size (w.heap.size + 1) w' 90 w.heap.size (twoRT R) := by
  refine ⟨hz, en_of Tryz.func90 (by kernel_rfl) (by kernel_rfl), fun W hs hG t u hg hg' hc hc' hi hi' gg x y xa xb h1 h2 h3 h4 h5 => ?_⟩
  have hk := (hs.cell w.heap.size 0 (Nat.le_refl _) (Nat.lt_succ_self _)).trans hm
  have hkl : w.heap.size < W.heap.size := hs.1
  unfold twoRT
  by_cases ha : t.kind = 6
  · obtain ⟨xp, xn, xc, xa, xd, rfl⟩ := (formR h4).1 ha
    by_cases hb : u.kind = 4
    · obtain ⟨zs, rfl⟩ := (formT h5).1 hb
      rw [if_pos ⟨ha, hb⟩]
      exact twoRT_yes f xp xn xc xa xd zs gg w.heap.size _ W h2 h3 hk h1 hkl hen (hide (fun W' hb => (hR W' t u x y xp xn xc xa xd zs (hG.below hb) hg hg' hc hc' hi hi' (h4.moves (Moves.below hb)) (h5.moves (Moves.below hb))).mono (tup_from hb)))
    · obtain ⟨y1, u1, rfl, hy⟩ := (formT h5).2 hb
      rw [if_neg (fun h => hb h.2)]
      exact (twoRT_no2 xp xn xc xa xd y1 u1 hy gg w.heap.size W h2 h3 h1).mono tup_type
  · obtain ⟨y1, u1, rfl, hy⟩ := (formR h4).2 ha
    rw [if_neg (fun h => ha h.1)]
    exact (twoRT_no1 y1 u1 hy gg w.heap.size W h2).mono tup_type
/-- What is asked of a function of such args. -/
def LeafII (f : FuncId) (R : T → T → Out) : Prop := ∀ (W : World) (t u : T) (x y : Nat) (xn : Int) (zn : Int), GI W → t.good = true → u.good = true → t.count ≤ 1000 → u.count ≤ 1000 → in64 t.num → in64 u.num → DatAt W x t (.iface 103 (.int .i64 xn)) → DatAt W y u (.iface 103 (.int .i64 zn)) → Calls Tryz.prog f #[.int .i64 xn, .int .i64 zn] W (TupPost (DoK W (R t u)))
def twoII (R : T → T → Out) (t u : T) : Out := if t.kind = 3 ∧ u.kind = 3 then R t u else .inl tyW
theorem deedII {w w' : World} {f : FuncId} {R : T → T → Out} (hen : ∀ args w, (callFunc f args).run Tryz.prog w = .ok (.enter f args) w) (hm : w'.cell? ⟨w.heap.size, 0, none⟩ = some (.func (.func f) #[] #[])) (hz : w.heap.size < w'.heap.size) (hR : LeafII f R) : DeedAt w.heap.size (w.heap.size + 1) w' 92 w.heap.size (twoII R) := by
  refine ⟨hz, en_of Tryz.func92 (by kernel_rfl) (by kernel_rfl), fun W hs hG t u hg hg' hc hc' hi hi' gg x y xa xb h1 h2 h3 h4 h5 => ?_⟩
  have hk := (hs.cell w.heap.size 0 (Nat.le_refl _) (Nat.lt_succ_self _)).trans hm
  have hkl : w.heap.size < W.heap.size := hs.1
  unfold twoII
  by_cases ha : t.kind = 3
  · obtain ⟨xn, rfl⟩ := (formI h4).1 ha
    by_cases hb : u.kind = 3
    · obtain ⟨zn, rfl⟩ := (formI h5).1 hb
      rw [if_pos ⟨ha, hb⟩]
      exact twoII_yes f xn zn gg w.heap.size _ W h2 h3 hk h1 hkl hen (hide (fun W' hb => (hR W' t u x y xn zn (hG.below hb) hg hg' hc hc' hi hi' (h4.moves (Moves.below hb)) (h5.moves (Moves.below hb))).mono (tup_from hb)))
    · obtain ⟨y1, u1, rfl, hy⟩ := (formI h5).2 hb
      rw [if_neg (fun h => hb h.2)]
      exact (twoII_no2 xn y1 u1 hy gg w.heap.size W h2 h3 h1).mono tup_type
  · obtain ⟨y1, u1, rfl, hy⟩ := (formI h4).2 ha
    rw [if_neg (fun h => ha h.1)]
    exact (twoII_no1 y1 u1 hy gg w.heap.size W h2).mono tup_type
/-- What is asked of a function of such args. -/
def LeafLL (f : FuncId) (R : T → T → Out) : Prop := ∀ (W : World) (t u : T) (x y : Nat) (xp : Option Addr) (xn xc : Nat) (xa xd : Int) (zp : Option Addr) (zn zc : Nat) (za zd : Int), GI W → t.good = true → u.good = true → t.count ≤ 1000 → u.count ≤ 1000 → in64 t.num → in64 u.num → DatAt W x t (.iface 95 (.agg #[.slice xp xn xc, .int .i64 xa, .int .i64 xd])) → DatAt W y u (.iface 95 (.agg #[.slice zp zn zc, .int .i64 za, .int .i64 zd])) → Calls Tryz.prog f #[.agg #[.slice xp xn xc, .int .i64 xa, .int .i64 xd], .agg #[.slice zp zn zc, .int .i64 za, .int .i64 zd]] W (TupPost (DoK W (R t u)))
def twoLL (R : T → T → Out) (t u : T) : Out := if t.kind = 5 ∧ u.kind = 5 then R t u else .inl tyW
theorem deedLL {w w' : World} {f : FuncId} {R : T → T → Out} (hen : ∀ args w, (callFunc f args).run Tryz.prog w = .ok (.enter f args) w) (hm : w'.cell? ⟨w.heap.size, 0, none⟩ = some (.func (.func f) #[] #[])) (hz : w.heap.size < w'.heap.size) (hR : LeafLL f R) : DeedAt w.heap.size (w.heap.size + 1) w' 95 w.heap.size (twoLL R) := by
  refine ⟨hz, en_of Tryz.func95 (by kernel_rfl) (by kernel_rfl), fun W hs hG t u hg hg' hc hc' hi hi' gg x y xa xb h1 h2 h3 h4 h5 => ?_⟩
  have hk := (hs.cell w.heap.size 0 (Nat.le_refl _) (Nat.lt_succ_self _)).trans hm
  have hkl : w.heap.size < W.heap.size := hs.1
  unfold twoLL
  by_cases ha : t.kind = 5
  · obtain ⟨xp, xn, xc, xa, xd, rfl⟩ := (formL h4).1 ha
    by_cases hb : u.kind = 5
    · obtain ⟨zp, zn, zc, za, zd, rfl⟩ := (formL h5).1 hb
      rw [if_pos ⟨ha, hb⟩]
      exact twoLL_yes f xp xn xc xa xd zp zn zc za zd gg w.heap.size _ W h2 h3 hk h1 hkl hen (hide (fun W' hb => (hR W' t u x y xp xn xc xa xd zp zn zc za zd (hG.below hb) hg hg' hc hc' hi hi' (h4.moves (Moves.below hb)) (h5.moves (Moves.below hb))).mono (tup_from hb)))
    · obtain ⟨y1, u1, rfl, hy⟩ := (formL h5).2 hb
      rw [if_neg (fun h => hb h.2)]
      exact (twoLL_no2 xp xn xc xa xd y1 u1 hy gg w.heap.size W h2 h3 h1).mono tup_type
  · obtain ⟨y1, u1, rfl, hy⟩ := (formL h4).2 ha
    rw [if_neg (fun h => ha h.1)]
    exact (twoLL_no1 y1 u1 hy gg w.heap.size W h2).mono tup_type
/-- What is asked of a function of such args. -/
def LeafRR (f : FuncId) (R : T → T → Out) : Prop := ∀ (W : World) (t u : T) (x y : Nat) (xp : Option Addr) (xn xc : Nat) (xa xd : Int) (zp : Option Addr) (zn zc : Nat) (za zd : Int), GI W → t.good = true → u.good = true → t.count ≤ 1000 → u.count ≤ 1000 → in64 t.num → in64 u.num → DatAt W x t (.iface 100 (.agg #[.slice xp xn xc, .int .i64 xa, .int .i64 xd])) → DatAt W y u (.iface 100 (.agg #[.slice zp zn zc, .int .i64 za, .int .i64 zd])) → Calls Tryz.prog f #[.agg #[.slice xp xn xc, .int .i64 xa, .int .i64 xd], .agg #[.slice zp zn zc, .int .i64 za, .int .i64 zd]] W (TupPost (DoK W (R t u)))
def twoRR (R : T → T → Out) (t u : T) : Out := if t.kind = 6 ∧ u.kind = 6 then R t u else .inl tyW
theorem deedRR {w w' : World} {f : FuncId} {R : T → T → Out} (hen : ∀ args w, (callFunc f args).run Tryz.prog w = .ok (.enter f args) w) (hm : w'.cell? ⟨w.heap.size, 0, none⟩ = some (.func (.func f) #[] #[])) (hz : w.heap.size < w'.heap.size) (hR : LeafRR f R) : DeedAt w.heap.size (w.heap.size + 1) w' 98 w.heap.size (twoRR R) := by
  refine ⟨hz, en_of Tryz.func98 (by kernel_rfl) (by kernel_rfl), fun W hs hG t u hg hg' hc hc' hi hi' gg x y xa xb h1 h2 h3 h4 h5 => ?_⟩
  have hk := (hs.cell w.heap.size 0 (Nat.le_refl _) (Nat.lt_succ_self _)).trans hm
  have hkl : w.heap.size < W.heap.size := hs.1
  unfold twoRR
  by_cases ha : t.kind = 6
  · obtain ⟨xp, xn, xc, xa, xd, rfl⟩ := (formR h4).1 ha
    by_cases hb : u.kind = 6
    · obtain ⟨zp, zn, zc, za, zd, rfl⟩ := (formR h5).1 hb
      rw [if_pos ⟨ha, hb⟩]
      exact twoRR_yes f xp xn xc xa xd zp zn zc za zd gg w.heap.size _ W h2 h3 hk h1 hkl hen (hide (fun W' hb => (hR W' t u x y xp xn xc xa xd zp zn zc za zd (hG.below hb) hg hg' hc hc' hi hi' (h4.moves (Moves.below hb)) (h5.moves (Moves.below hb))).mono (tup_from hb)))
    · obtain ⟨y1, u1, rfl, hy⟩ := (formR h5).2 hb
      rw [if_neg (fun h => hb h.2)]
      exact (twoRR_no2 xp xn xc xa xd y1 u1 hy gg w.heap.size W h2 h3 h1).mono tup_type
  · obtain ⟨y1, u1, rfl, hy⟩ := (formR h4).2 ha
    rw [if_neg (fun h => ha h.1)]
    exact (twoRR_no1 y1 u1 hy gg w.heap.size W h2).mono tup_type
def boolT (b : Bool) : T := .mk 2 (if b then 1 else 0) ⟨#[]⟩ []
theorem boolT_good (b : Bool) : (boolT b).good = true := by cases b <;> decide +kernel
theorem boolT_count (b : Bool) : (boolT b).count = 1 := by simp [boolT, T.count, T.atoms, atomsL]
theorem boolT_dat (w : World) (x : Nat) (b : Bool) : DatAt w x (boolT b) (.iface 83 (.bool b)) := by
  unfold boolT DatAt
  exact .inr (.inl ⟨rfl, by cases b <;> rfl⟩)
theorem tup_bool {W : World} {b : Bool} (e : Ending) (w' : World) (h : TupPost (fun dv s w' => dv = .iface 83 (.bool b) ∧ s = ⟨#[]⟩ ∧ Below W.heap.size W w') e w') : TupPost (DoK W (.inr (boolT b))) e w' := by
  obtain ⟨dv, s, h1, rfl, rfl, h2⟩ := h
  exact ⟨_, _, h1, h2, rfl, boolT_good b, by rw [boolT_count]; omega, 0, boolT_dat _ _ _⟩
/-- A function of an order. -/
def Holds (h : FuncId) (hb : Int → Bool) : Prop := ∀ n w, Calls Tryz.prog h #[.int .i64 n] w fun e w' => e = .returned (.bool (hb n)) ∧ w' = w
def cmpsD (hb : Int → Bool) (t u : T) : Out := .inr (boolT (hb (t.ord u)))
theorem deedCD {w w' : World} {h : FuncId} {hb : Int → Bool} (hen : ∀ args w, (callFunc h args).run Tryz.prog w = .ok (.enter h args) w) (HH : Holds h hb) (h0 : w'.cell? ⟨w.heap.size, 0, none⟩ = some (.func (.func h) #[] #[])) (hm : w'.cell? ⟨w.heap.size + 1 + 1, 0, none⟩ = some (.func (.func 79) #[] #[.pointer (some ⟨w.heap.size, 0, none⟩)])) (hz : w.heap.size + 1 + 1 < w'.heap.size) : DeedAt w.heap.size (w.heap.size + 1 + 1 + 1) w' 106 (w.heap.size + 1 + 1) (cmpsD hb) := by
  refine ⟨hz, en_of Tryz.func106 (by kernel_rfl) (by kernel_rfl), fun W hs hG t u hg hg' hc hc' hi hi' gg x y xa xb h1 h2 h3 h4 h5 => ?_⟩
  have hk := (hs.cell (w.heap.size + 1 + 1) 0 (by omega) (Nat.lt_succ_self _)).trans hm
  have hq := (hs.cell w.heap.size 0 (Nat.le_refl _) (by omega)).trans h0
  have hkl : w.heap.size + 1 + 1 < W.heap.size := hs.1
  have hql : w.heap.size < W.heap.size := by omega
  have he := en_of Tryz.func79 (by kernel_rfl) (by kernel_rfl)
  unfold cmpsD
  obtain ⟨xy, xu, rfl, hdx⟩ := dty_of h4
  obtain ⟨zy, zu, rfl, hdz⟩ := dty_of h5
  exact twoDD_yesc 79 w.heap.size xy xu hdx zy zu hdz gg (w.heap.size + 1 + 1) _ W h2 h3 hk h1 hkl he (hide (fun W' hB => ((cmpD_do xy xu zy zu h w.heap.size hb (t.ord u) W' hen (hide HH) (Nat.lt_of_lt_of_le hql hB.size) ((hB.cell (p := ⟨w.heap.size, 0, none⟩) hql).trans hq) (hide (fun W2 hB2 => compare_any (t.count + 1) t u _ _ x y W2 (Nat.lt_succ_self _) hc hc' hg hg' ((h4.moves (Moves.below hB)).moves (Moves.below hB2)) ((h5.moves (Moves.below hB)).moves (Moves.below hB2))))).mono tup_bool).mono (tup_from hB)))
def cmpsB (hb : Int → Bool) (t u : T) : Out := if t.kind = 2 ∧ u.kind = 2 then .inr (boolT (hb (t.ord u))) else .inl tyW
theorem deedCB {w w' : World} {h : FuncId} {hb : Int → Bool} (hen : ∀ args w, (callFunc h args).run Tryz.prog w = .ok (.enter h args) w) (HH : Holds h hb) (h0 : w'.cell? ⟨w.heap.size, 0, none⟩ = some (.func (.func h) #[] #[])) (hm : w'.cell? ⟨w.heap.size + 1 + 1, 0, none⟩ = some (.func (.func 114) #[] #[.pointer (some ⟨w.heap.size, 0, none⟩)])) (hz : w.heap.size + 1 + 1 < w'.heap.size) : DeedAt w.heap.size (w.heap.size + 1 + 1 + 1) w' 77 (w.heap.size + 1 + 1) (cmpsB hb) := by
  refine ⟨hz, en_of Tryz.func77 (by kernel_rfl) (by kernel_rfl), fun W hs hG t u hg hg' hc hc' hi hi' gg x y xa xb h1 h2 h3 h4 h5 => ?_⟩
  have hk := (hs.cell (w.heap.size + 1 + 1) 0 (by omega) (Nat.lt_succ_self _)).trans hm
  have hq := (hs.cell w.heap.size 0 (Nat.le_refl _) (by omega)).trans h0
  have hkl : w.heap.size + 1 + 1 < W.heap.size := hs.1
  have hql : w.heap.size < W.heap.size := by omega
  have he := en_of Tryz.func114 (by kernel_rfl) (by kernel_rfl)
  unfold cmpsB
  by_cases ha : t.kind = 2
  · obtain ⟨xb, rfl⟩ := (formB h4).1 ha
    by_cases hb' : u.kind = 2
    · obtain ⟨zb, rfl⟩ := (formB h5).1 hb'
      rw [if_pos ⟨ha, hb'⟩]
      exact twoBB_yesc 114 w.heap.size xb zb gg (w.heap.size + 1 + 1) _ W h2 h3 hk h1 hkl he (hide (fun W' hB => ((cmpB_do xb zb h w.heap.size hb (t.ord u) W' hen (hide HH) (Nat.lt_of_lt_of_le hql hB.size) ((hB.cell (p := ⟨w.heap.size, 0, none⟩) hql).trans hq) (hide (fun W2 hB2 => compare_any (t.count + 1) t u _ _ x y W2 (Nat.lt_succ_self _) hc hc' hg hg' ((h4.moves (Moves.below hB)).moves (Moves.below hB2)) ((h5.moves (Moves.below hB)).moves (Moves.below hB2))))).mono tup_bool).mono (tup_from hB)))
    · obtain ⟨y1, u1, rfl, hy⟩ := (formB h5).2 hb'
      rw [if_neg (fun h => hb' h.2)]
      exact (twoBB_no2 xb y1 u1 hy gg (w.heap.size + 1 + 1) W h2 h3 h1).mono tup_type
  · obtain ⟨y1, u1, rfl, hy⟩ := (formB h4).2 ha
    rw [if_neg (fun h => ha h.1)]
    exact (twoBB_no1 y1 u1 hy gg (w.heap.size + 1 + 1) W h2).mono tup_type
def cmpsI (hb : Int → Bool) (t u : T) : Out := if t.kind = 3 ∧ u.kind = 3 then .inr (boolT (hb (t.ord u))) else .inl tyW
theorem deedCI {w w' : World} {h : FuncId} {hb : Int → Bool} (hen : ∀ args w, (callFunc h args).run Tryz.prog w = .ok (.enter h args) w) (HH : Holds h hb) (h0 : w'.cell? ⟨w.heap.size, 0, none⟩ = some (.func (.func h) #[] #[])) (hm : w'.cell? ⟨w.heap.size + 1 + 1, 0, none⟩ = some (.func (.func 115) #[] #[.pointer (some ⟨w.heap.size, 0, none⟩)])) (hz : w.heap.size + 1 + 1 < w'.heap.size) : DeedAt w.heap.size (w.heap.size + 1 + 1 + 1) w' 92 (w.heap.size + 1 + 1) (cmpsI hb) := by
  refine ⟨hz, en_of Tryz.func92 (by kernel_rfl) (by kernel_rfl), fun W hs hG t u hg hg' hc hc' hi hi' gg x y xa xb h1 h2 h3 h4 h5 => ?_⟩
  have hk := (hs.cell (w.heap.size + 1 + 1) 0 (by omega) (Nat.lt_succ_self _)).trans hm
  have hq := (hs.cell w.heap.size 0 (Nat.le_refl _) (by omega)).trans h0
  have hkl : w.heap.size + 1 + 1 < W.heap.size := hs.1
  have hql : w.heap.size < W.heap.size := by omega
  have he := en_of Tryz.func115 (by kernel_rfl) (by kernel_rfl)
  unfold cmpsI
  by_cases ha : t.kind = 3
  · obtain ⟨xn, rfl⟩ := (formI h4).1 ha
    by_cases hb' : u.kind = 3
    · obtain ⟨zn, rfl⟩ := (formI h5).1 hb'
      rw [if_pos ⟨ha, hb'⟩]
      exact twoII_yesc 115 w.heap.size xn zn gg (w.heap.size + 1 + 1) _ W h2 h3 hk h1 hkl he (hide (fun W' hB => ((cmpI_do xn zn h w.heap.size hb (t.ord u) W' hen (hide HH) (Nat.lt_of_lt_of_le hql hB.size) ((hB.cell (p := ⟨w.heap.size, 0, none⟩) hql).trans hq) (hide (fun W2 hB2 => compare_any (t.count + 1) t u _ _ x y W2 (Nat.lt_succ_self _) hc hc' hg hg' ((h4.moves (Moves.below hB)).moves (Moves.below hB2)) ((h5.moves (Moves.below hB)).moves (Moves.below hB2))))).mono tup_bool).mono (tup_from hB)))
    · obtain ⟨y1, u1, rfl, hy⟩ := (formI h5).2 hb'
      rw [if_neg (fun h => hb' h.2)]
      exact (twoII_no2 xn y1 u1 hy gg (w.heap.size + 1 + 1) W h2 h3 h1).mono tup_type
  · obtain ⟨y1, u1, rfl, hy⟩ := (formI h4).2 ha
    rw [if_neg (fun h => ha h.1)]
    exact (twoII_no1 y1 u1 hy gg (w.heap.size + 1 + 1) W h2).mono tup_type
def cmpsT (hb : Int → Bool) (t u : T) : Out := if t.kind = 4 ∧ u.kind = 4 then .inr (boolT (hb (t.ord u))) else .inl tyW
theorem deedCT {w w' : World} {h : FuncId} {hb : Int → Bool} (hen : ∀ args w, (callFunc h args).run Tryz.prog w = .ok (.enter h args) w) (HH : Holds h hb) (h0 : w'.cell? ⟨w.heap.size, 0, none⟩ = some (.func (.func h) #[] #[])) (hm : w'.cell? ⟨w.heap.size + 1 + 1, 0, none⟩ = some (.func (.func 116) #[] #[.pointer (some ⟨w.heap.size, 0, none⟩)])) (hz : w.heap.size + 1 + 1 < w'.heap.size) : DeedAt w.heap.size (w.heap.size + 1 + 1 + 1) w' 86 (w.heap.size + 1 + 1) (cmpsT hb) := by
  refine ⟨hz, en_of Tryz.func86 (by kernel_rfl) (by kernel_rfl), fun W hs hG t u hg hg' hc hc' hi hi' gg x y xa xb h1 h2 h3 h4 h5 => ?_⟩
  have hk := (hs.cell (w.heap.size + 1 + 1) 0 (by omega) (Nat.lt_succ_self _)).trans hm
  have hq := (hs.cell w.heap.size 0 (Nat.le_refl _) (by omega)).trans h0
  have hkl : w.heap.size + 1 + 1 < W.heap.size := hs.1
  have hql : w.heap.size < W.heap.size := by omega
  have he := en_of Tryz.func116 (by kernel_rfl) (by kernel_rfl)
  unfold cmpsT
  by_cases ha : t.kind = 4
  · obtain ⟨xs, rfl⟩ := (formT h4).1 ha
    by_cases hb' : u.kind = 4
    · obtain ⟨zs, rfl⟩ := (formT h5).1 hb'
      rw [if_pos ⟨ha, hb'⟩]
      exact twoTT_yesc 116 w.heap.size xs zs gg (w.heap.size + 1 + 1) _ W h2 h3 hk h1 hkl he (hide (fun W' hB => ((cmpT_do xs zs h w.heap.size hb (t.ord u) W' hen (hide HH) (Nat.lt_of_lt_of_le hql hB.size) ((hB.cell (p := ⟨w.heap.size, 0, none⟩) hql).trans hq) (hide (fun W2 hB2 => compare_any (t.count + 1) t u _ _ x y W2 (Nat.lt_succ_self _) hc hc' hg hg' ((h4.moves (Moves.below hB)).moves (Moves.below hB2)) ((h5.moves (Moves.below hB)).moves (Moves.below hB2))))).mono tup_bool).mono (tup_from hB)))
    · obtain ⟨y1, u1, rfl, hy⟩ := (formT h5).2 hb'
      rw [if_neg (fun h => hb' h.2)]
      exact (twoTT_no2 xs y1 u1 hy gg (w.heap.size + 1 + 1) W h2 h3 h1).mono tup_type
  · obtain ⟨y1, u1, rfl, hy⟩ := (formT h4).2 ha
    rw [if_neg (fun h => ha h.1)]
    exact (twoTT_no1 y1 u1 hy gg (w.heap.size + 1 + 1) W h2).mono tup_type
def cmpsL (hb : Int → Bool) (t u : T) : Out := if t.kind = 5 ∧ u.kind = 5 then .inr (boolT (hb (t.ord u))) else .inl tyW
theorem deedCL {w w' : World} {h : FuncId} {hb : Int → Bool} (hen : ∀ args w, (callFunc h args).run Tryz.prog w = .ok (.enter h args) w) (HH : Holds h hb) (h0 : w'.cell? ⟨w.heap.size, 0, none⟩ = some (.func (.func h) #[] #[])) (hm : w'.cell? ⟨w.heap.size + 1 + 1, 0, none⟩ = some (.func (.func 117) #[] #[.pointer (some ⟨w.heap.size, 0, none⟩)])) (hz : w.heap.size + 1 + 1 < w'.heap.size) : DeedAt w.heap.size (w.heap.size + 1 + 1 + 1) w' 95 (w.heap.size + 1 + 1) (cmpsL hb) := by
  refine ⟨hz, en_of Tryz.func95 (by kernel_rfl) (by kernel_rfl), fun W hs hG t u hg hg' hc hc' hi hi' gg x y xa xb h1 h2 h3 h4 h5 => ?_⟩
  have hk := (hs.cell (w.heap.size + 1 + 1) 0 (by omega) (Nat.lt_succ_self _)).trans hm
  have hq := (hs.cell w.heap.size 0 (Nat.le_refl _) (by omega)).trans h0
  have hkl : w.heap.size + 1 + 1 < W.heap.size := hs.1
  have hql : w.heap.size < W.heap.size := by omega
  have he := en_of Tryz.func117 (by kernel_rfl) (by kernel_rfl)
  unfold cmpsL
  by_cases ha : t.kind = 5
  · obtain ⟨xp, xn, xc, xa, xd, rfl⟩ := (formL h4).1 ha
    by_cases hb' : u.kind = 5
    · obtain ⟨zp, zn, zc, za, zd, rfl⟩ := (formL h5).1 hb'
      rw [if_pos ⟨ha, hb'⟩]
      exact twoLL_yesc 117 w.heap.size xp xn xc xa xd zp zn zc za zd gg (w.heap.size + 1 + 1) _ W h2 h3 hk h1 hkl he (hide (fun W' hB => ((cmpL_do xp xn xc xa xd zp zn zc za zd h w.heap.size hb (t.ord u) W' hen (hide HH) (Nat.lt_of_lt_of_le hql hB.size) ((hB.cell (p := ⟨w.heap.size, 0, none⟩) hql).trans hq) (hide (fun W2 hB2 => compare_any (t.count + 1) t u _ _ x y W2 (Nat.lt_succ_self _) hc hc' hg hg' ((h4.moves (Moves.below hB)).moves (Moves.below hB2)) ((h5.moves (Moves.below hB)).moves (Moves.below hB2))))).mono tup_bool).mono (tup_from hB)))
    · obtain ⟨y1, u1, rfl, hy⟩ := (formL h5).2 hb'
      rw [if_neg (fun h => hb' h.2)]
      exact (twoLL_no2 xp xn xc xa xd y1 u1 hy gg (w.heap.size + 1 + 1) W h2 h3 h1).mono tup_type
  · obtain ⟨y1, u1, rfl, hy⟩ := (formL h4).2 ha
    rw [if_neg (fun h => ha h.1)]
    exact (twoLL_no1 y1 u1 hy gg (w.heap.size + 1 + 1) W h2).mono tup_type
end Go.Proofs.YtnkfbjcgkdblgaaGreat.Vl
