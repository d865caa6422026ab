/- Pe, Pf, Pg, Ph. -/
import Derived.Test.YtfjoecbkagedbaaGreatDoorY05
import Derived.Test.YtfjoecbkagedbaaGreatDoorY06
namespace Go.Proofs.YtfjoecbkagedbaaGreatDoor
open Go.RowKit
/-- The type of the part of a node's kind. -/
def Ip.ty (k : Int) : TypeId :=
  bif k == 5 then 106 else bif k == 6 then 107 else bif k == 7 then 108 else bif k == 8 then 109 else bif k == 9 then 110 else bif k == 10 then 111 else bif k == 11 then 112 else bif k == 12 then 113 else bif k == 13 then 114 else bif k == 14 then 115 else bif k == 15 then 116 else bif k == 16 then 117 else bif k == 17 then 118 else bif k == 18 then 119 else bif k == 19 then 120 else bif k == 20 then 121 else bif k == 21 then 122 else bif k == 22 then 123 else bif k == 23 then 124 else bif k == 24 then 125 else 126
/-- A part: its node, and the slice of the parts below. -/
def Ip.pv (x : Tr.Nd) (sl : Value) : Value := .iface (Ip.ty x.kind) (.agg #[.int .i64 x.kind, .int .i64 x.op, .int .i64 x.n, .string x.text, .int .i64 x.kids, sl])
/-- Some parts one after another, and all their nodes. -/
def Ip.Kids (P : Value → List Tr.Nd → Prop) : List Value → List Tr.Nd → Prop
  | [], l => l = []
  | v :: vs, l => ∃ a r, P v a ∧ Ip.Kids P vs r ∧ l = a ++ r
/-- A part in memory, its nodes each behind its kids; all its blocks are of B. -/
def Ip.At (B : Nat → Prop) (w : World) : Nat → Value → List Tr.Nd → Prop
  | 0, _, _ => False
  | n + 1, v, l => ∃ (x : Tr.Nd) (sl : Value) (xs : List Value) (r : List Tr.Nd), v = Ip.pv x sl ∧ x.kids = xs.length ∧ w.ownsRow 0 46 1 sl xs.length xs ∧ (∀ q, sl.ownBlock = some q → B q) ∧ Ip.Kids (Ip.At B w n) xs r ∧ l = r ++ [x]
theorem Ip.Kids.mono {P Q : Value → List Tr.Nd → Prop} (h : ∀ v l, P v l → Q v l) : ∀ {xs : List Value} {l : List Tr.Nd}, Ip.Kids P xs l → Ip.Kids Q xs l
  | [], _, k => k
  | _ :: _, _, ⟨a, r, k1, k2, k3⟩ => ⟨a, r, h _ _ k1, Ip.Kids.mono h k2, k3⟩
theorem Ip.Kids.append {P : Value → List Tr.Nd → Prop} : ∀ {xs ys : List Value} {l m : List Tr.Nd}, Ip.Kids P xs l → Ip.Kids P ys m → Ip.Kids P (xs ++ ys) (l ++ m)
  | [], _, _, _, k, k' => by have k : _ = [] := k; subst k; exact k'
  | _ :: _, _, _, m, ⟨a, r, k1, k2, k3⟩, k' => ⟨a, r ++ m, k1, Ip.Kids.append k2 k', by rw [k3, List.append_assoc]⟩
theorem Ip.Kids.one {P : Value → List Tr.Nd → Prop} {v : Value} {l : List Tr.Nd} (h : P v l) : Ip.Kids P [v] l := ⟨l, [], h, rfl, by simp⟩
theorem Ip.Kids.cons {P : Value → List Tr.Nd → Prop} {v : Value} {vs : List Value} {l m : List Tr.Nd} (h : P v l) (k : Ip.Kids P vs m) : Ip.Kids P (v :: vs) (l ++ m) := ⟨l, m, h, k, rfl⟩
theorem row_own {w w' : World} {base size : Nat} {e : TypeId} {v : Value} {n : Nat} {xs : List Value} (h : w.ownsRow base e size v n xs) {base' : Nat} (hl : ∀ q, v.ownBlock = some q → base' ≤ q) (hb : ∀ q, v.ownBlock = some q → w'.heap[q]? = w.heap[q]?) : w'.ownsRow base' e size v n xs := by
  refine ⟨h.1, ?_⟩
  rcases h.2 with h1 | ⟨g, cap, cur, hv, h2, h3, h4⟩
  · exact .inl h1
  · have e : v.ownBlock = some g := by rw [hv]; rfl
    exact .inr ⟨g, cap, cur, hv, hl g e, (hb g e).trans h3, h4⟩
theorem Ip.At.go {B B' : Nat → Prop} {w w' : World} (hB : ∀ q, B q → B' q) (hw : ∀ q, B q → w'.heap[q]? = w.heap[q]?) : ∀ {n : Nat} {v : Value} {l : List Tr.Nd}, Ip.At B w n v l → Ip.At B' w' n v l
  | _ + 1, _, _, ⟨x, sl, xs, r, h1, h2, h3, h4, h5, h6⟩ => ⟨x, sl, xs, r, h1, h2, row_own h3 (fun _ _ => Nat.zero_le _) (fun q e => hw q (h4 q e)), fun q e => hB q (h4 q e), h5.mono (fun _ _ => Ip.At.go hB hw), h6⟩
theorem Ip.At.up {B : Nat → Prop} {w : World} : ∀ {n : Nat} {v : Value} {l : List Tr.Nd}, Ip.At B w n v l → Ip.At B w (n + 1) v l
  | _ + 1, _, _, ⟨x, sl, xs, r, h1, h2, h3, h4, h5, h6⟩ => ⟨x, sl, xs, r, h1, h2, h3, h4, h5.mono (fun _ _ => Ip.At.up), h6⟩
theorem Ip.At.le {B : Nat → Prop} {w : World} {n m : Nat} {v : Value} {l : List Tr.Nd} (h : Ip.At B w n v l) (hm : n ≤ m) : Ip.At B w m v l := by
  induction m with
  | zero => obtain rfl : n = 0 := by omega
            exact h
  | succ m ih =>
    by_cases e : n = m + 1
    · rw [← e]; exact h
    · exact (ih (by omega)).up
theorem Ip.At.one {B : Nat → Prop} {w : World} : ∀ {n : Nat} {v : Value} {l : List Tr.Nd}, Ip.At B w n v l → v.oneCell' = true
  | _ + 1, _, _, ⟨_, _, _, _, h1, _⟩ => by rw [h1]; rfl
/-- A part whose blocks all lie from lo on. -/
def Ip.Pt (lo : Nat) (w : World) (v : Value) (l : List Tr.Nd) : Prop := ∃ n, Ip.At (fun q => lo ≤ q ∧ q < w.heap.size) w n v l
theorem Ip.Pt.one {lo : Nat} {w : World} {v : Value} {l : List Tr.Nd} (h : Ip.Pt lo w v l) : v.oneCell' = true := by obtain ⟨n, h⟩ := h; exact h.one
theorem Ip.Pt.go {lo lo' : Nat} {w w' : World} {v : Value} {l : List Tr.Nd} (h : Ip.Pt lo w v l) (hl : lo' ≤ lo) (hs : w.heap.size ≤ w'.heap.size) (hw : ∀ q, lo ≤ q → q < w.heap.size → w'.heap[q]? = w.heap[q]?) : Ip.Pt lo' w' v l := by
  obtain ⟨n, h⟩ := h
  exact ⟨n, h.go (fun q e => ⟨Nat.le_trans hl e.1, Nat.lt_of_lt_of_le e.2 hs⟩) (fun q e => hw q e.1 e.2)⟩
/-- Parts in a slice that may grow; no part lies in the slice's own block. -/
def Ip.Row (lo : Nat) (w : World) (sv : Value) (n : Nat) (l : List Tr.Nd) : Prop := ∃ xs m, w.ownsRow lo 46 1 sv n xs ∧ Ip.Kids (Ip.At (fun q => lo ≤ q ∧ q < w.heap.size ∧ sv.ownBlock ≠ some q) w m) xs l
theorem Ip.Row.nil (lo : Nat) (w : World) : Ip.Row lo w (.slice none 0 0) 0 [] := ⟨[], 0, World.ownsRow_nil _ _ _ _, rfl⟩
theorem Ip.Row.lt {lo : Nat} {w : World} {sv : Value} {n : Nat} {l : List Tr.Nd} (h : Ip.Row lo w sv n l) {q : Nat} (e : sv.ownBlock = some q) : lo ≤ q ∧ q < w.heap.size := by
  obtain ⟨xs, m, h1, _⟩ := h
  exact h1.lt q e
theorem Ip.Row.form {lo : Nat} {w : World} {sv : Value} {n : Nat} {l : List Tr.Nd} (h : Ip.Row lo w sv n l) : ∃ p c, sv = .slice p n c := by
  obtain ⟨xs, m, h1, _⟩ := h
  exact row_formP h1
theorem Ip.Row.go {lo lo' : Nat} {w w' : World} {sv : Value} {n : Nat} {l : List Tr.Nd} (h : Ip.Row lo w sv n l) (hl : lo' ≤ lo) (hs : w.heap.size ≤ w'.heap.size) (hw : ∀ q, lo ≤ q → q < w.heap.size → w'.heap[q]? = w.heap[q]?) : Ip.Row lo' w' sv n l := by
  have hlt := fun q e => h.lt (q := q) e
  obtain ⟨xs, m, h1, h2⟩ := h
  exact ⟨xs, m, row_own h1 (fun q e => Nat.le_trans hl (hlt q e).1) (fun q e => hw q (hlt q e).1 (hlt q e).2), h2.mono (fun _ _ k => k.go (fun q e => ⟨Nat.le_trans hl e.1, Nat.lt_of_lt_of_le e.2.1 hs, e.2.2⟩) (fun q e => hw q e.1 e.2.1))⟩
/-- One part more. -/
theorem Ip.Row.push {lo : Nat} {w w' : World} {sv sv' : Value} {n : Nat} {l a : List Tr.Nd} {xs : List Value} {m : Nat} {v : Value} (h2 : Ip.Kids (Ip.At (fun q => lo ≤ q ∧ q < w.heap.size ∧ sv.ownBlock ≠ some q) w m) xs l) {k : Nat} (hv : Ip.At (fun q => lo ≤ q ∧ q < w.heap.size ∧ sv.ownBlock ≠ some q) w k v a)
    (h1 : w'.ownsRow lo 46 1 sv' (n + 1) (xs ++ [v])) (hg : w.grownBy w' sv.ownBlock) (ho : sv'.ownBlock = sv.ownBlock ∨ sv'.ownBlock = some w.heap.size) : Ip.Row lo w' sv' (n + 1) (l ++ a) := by
  have hB : ∀ q, (lo ≤ q ∧ q < w.heap.size ∧ sv.ownBlock ≠ some q) → (lo ≤ q ∧ q < w'.heap.size ∧ sv'.ownBlock ≠ some q) := fun q e => ⟨e.1, Nat.lt_of_lt_of_le e.2.1 hg.size, fun e' => by
    rcases ho with ho | ho
    · exact e.2.2 (ho ▸ e')
    · rw [ho] at e'; cases e'; exact absurd e.2.1 (Nat.lt_irrefl _)⟩
  have hW : ∀ q, (lo ≤ q ∧ q < w.heap.size ∧ sv.ownBlock ≠ some q) → w'.heap[q]? = w.heap[q]? := fun q e => hg.block q e.2.1 (fun e' => e.2.2 e'.symm)
  exact ⟨_, m + k, h1, (h2.mono (fun _ _ x => (x.go hB hW).le (Nat.le_add_right _ _))).append (.one ((hv.go hB hW).le (Nat.le_add_left _ _)))⟩
/-- The parser's state, in block b; its tokens lie at tp. -/
structure IP (b : Nat) (tp : Option Addr) (tc : Nat) (ts : List Sc.T) (sz : Nat) (p : Nat) (w : World) : Prop where
  c0 : w.cell? ⟨b, 0, none⟩ = some (.slice tp ts.length tc)
  c1 : w.cell? ⟨b, 1, none⟩ = some (.int .i64 p)
  c2 : w.cell? ⟨b, 2, none⟩ = some (.int .i64 sz)
  fr : ∀ j, w.frozen? ⟨b, j, none⟩ = false
  tk : ts = [] ∨ ∃ tg, tp = some ⟨tg, 0, none⟩ ∧ tg < b ∧ ∀ (i : Nat) (h : i < ts.length), w.cell? ⟨tg, i * 4, none⟩ = some (.int .i64 ts[i].kind) ∧ w.cell? ⟨tg, i * 4 + 1, none⟩ = some (.string ⟨ts[i].text.toArray⟩) ∧ w.cell? ⟨tg, i * 4 + 2, none⟩ = some (.int .i64 ts[i].n) ∧ w.cell? ⟨tg, i * 4 + 3, none⟩ = some (.int .i64 ts[i].place)
  le : p ≤ ts.length
  most : ts.length ≤ 1048576
  wd : ∀ (i : Nat) (h : i < ts.length), ts[i].kind = 2 → ts[i].text ≠ [61]
  gl : 0 < b ∧ ∀ o, o ≤ 14 → w.cell? ⟨0, o * 2, none⟩ = some (.string ⟨(Pr.mark o).toArray⟩) ∧ w.cell? ⟨0, o * 2 + 1, none⟩ = some (.int .i64 (Pr.rank o : Nat))
/-- All blocks but the parser's are as they were. -/
abbrev Ip.Mv (b : Nat) (w w' : World) : Prop := Pr.Mv (fun q => q = b) w w'
section
variable {b tc sz p : Nat} {tp : Option Addr} {ts : List Sc.T} {w w' w'' : World}
theorem Ip.Mv.refl (b : Nat) (w : World) : Ip.Mv b w w := .below (Below.refl _ _)
theorem Ip.Mv.t (h : Ip.Mv b w w') (k : Ip.Mv b w' w'') : Ip.Mv b w w'' := Pr.Mv.trans h k (fun _ _ e => e) (fun _ _ e => e)
theorem IP.lt (h : IP b tp tc ts sz p w) : b < w.heap.size := World.block_lt_of_cell? w ⟨b, 0, none⟩ h.c0
theorem IP.blocks (h : IP b tp tc ts sz p w) (hb : ∀ q, q ≤ b → w'.heap[q]? = w.heap[q]?) : IP b tp tc ts sz p w' := by
  have cb : ∀ q j, q ≤ b → w'.cell? ⟨q, j, none⟩ = w.cell? ⟨q, j, none⟩ := fun q j hq => World.cell?_of_block (a := ⟨q, j, none⟩) (hb q hq)
  refine ⟨(cb b _ (Nat.le_refl _)).trans h.c0, (cb b _ (Nat.le_refl _)).trans h.c1, (cb b _ (Nat.le_refl _)).trans h.c2, fun j => (World.frozen?_of_block (a := ⟨b, j, none⟩) (hb b (Nat.le_refl _))).trans (h.fr j), ?_, h.le, h.most, h.wd, h.gl.1, fun o ho => ⟨(cb 0 _ (Nat.zero_le _)).trans (h.gl.2 o ho).1, (cb 0 _ (Nat.zero_le _)).trans (h.gl.2 o ho).2⟩⟩
  rcases h.tk with e | ⟨tg, e1, e2, e3⟩
  · exact .inl e
  · exact .inr ⟨tg, e1, e2, fun i hi => ⟨(cb tg _ (by omega)).trans (e3 i hi).1, (cb tg _ (by omega)).trans (e3 i hi).2.1, (cb tg _ (by omega)).trans (e3 i hi).2.2.1, (cb tg _ (by omega)).trans (e3 i hi).2.2.2⟩⟩
theorem IP.below (h : IP b tp tc ts sz p w) (hb : Below w.heap.size w w') : IP b tp tc ts sz p w' := h.blocks (fun q hq => hb.block q (Nat.lt_of_le_of_lt hq h.lt))
theorem IP.grown (h : IP b tp tc ts sz p w) {r : Option Nat} (hg : w.grownBy w' r) (hr : ∀ q, r = some q → b < q) : IP b tp tc ts sz p w' := h.blocks (fun q hq => hg.block q (Nat.lt_of_le_of_lt hq h.lt) (fun e => by have := hr q e.symm; omega))
theorem IP.fresh (h : IP b tp tc ts sz p w) {n : Nat} (hb : Below n w w') (hn : b < n) : IP b tp tc ts sz p w' := h.blocks (fun q hq => hb.block q (Nat.lt_of_le_of_lt hq hn))
theorem Ip.Mv.fresh (h : Ip.Mv b w w') {n : Nat} (k : Below n w' w'') (hn : w.heap.size ≤ n) : Ip.Mv b w w'' := ⟨k.os.trans h.os, k.tape.trans h.tape, k.output.trans h.output, Nat.le_trans h.size k.size, fun q hq e => (k.block q (Nat.lt_of_lt_of_le hq hn)).trans (h.block q hq e)⟩
/-- The next token is taken. -/
theorem IP.adv (h : IP b tp tc ts sz p w) (hp : p < ts.length) : IP b tp tc ts sz (p + 1) (w.setCell ⟨b, 1, none⟩ (.int .i64 ((p : Int) + 1))) := by
  have ne : ∀ k, k ≠ 1 → (w.setCell ⟨b, 1, none⟩ (.int .i64 ((p : Int) + 1))).cell? ⟨b, k, none⟩ = w.cell? ⟨b, k, none⟩ := fun k hk => World.cell?_setCell_other _ _ _ _ (fun e => hk (congrArg Addr.off e).symm)
  have gn : ∀ k, (w.setCell ⟨b, 1, none⟩ (.int .i64 ((p : Int) + 1))).cell? ⟨0, k, none⟩ = w.cell? ⟨0, k, none⟩ := fun k => World.cell?_setCell_other _ _ _ _ (fun e => by have := congrArg Addr.block e; simp at this; have := h.gl.1; omega)
  refine ⟨(ne 0 (by decide)).trans h.c0, ?_, (ne 2 (by decide)).trans h.c2, fun j => by rw [World.frozen?_setCell]; exact h.fr j, ?_, hp, h.most, h.wd, h.gl.1, fun o ho => ⟨(gn _).trans (h.gl.2 o ho).1, (gn _).trans (h.gl.2 o ho).2⟩⟩
  · rw [World.cell?_setCell_same _ _ _ h.c1]; simp
  · rcases h.tk with e | ⟨tg, e1, e2, e3⟩
    · exact .inl e
    · have tn : ∀ k, (w.setCell ⟨b, 1, none⟩ (.int .i64 ((p : Int) + 1))).cell? ⟨tg, k, none⟩ = w.cell? ⟨tg, k, none⟩ := fun k => World.cell?_setCell_other _ _ _ _ (fun e => by have := congrArg Addr.block e; simp at this; omega)
      exact .inr ⟨tg, e1, e2, fun i hi => ⟨(tn _).trans (e3 i hi).1, (tn _).trans (e3 i hi).2.1, (tn _).trans (e3 i hi).2.2.1, (tn _).trans (e3 i hi).2.2.2⟩⟩
theorem Ip.Mv.set (w : World) (b j : Nat) (v : Value) : Ip.Mv b w (w.setCell ⟨b, j, none⟩ v) := .grown (Pr.grown_set w b j v) (fun q e => by cases e; rfl)
theorem IP.tokAt (h : IP b tp tc ts sz p w) {s : Pr.Dk} (hs : s.p = p) (hp : p < ts.length) : ∃ tg, tp = some ⟨tg, 0, none⟩ ∧ tg < b ∧ w.cell? ⟨tg, p * 4, none⟩ = some (.int .i64 (Pr.tok ts sz s).kind) ∧ w.cell? ⟨tg, p * 4 + 1, none⟩ = some (.string ⟨(Pr.tok ts sz s).text.toArray⟩) ∧ w.cell? ⟨tg, p * 4 + 2, none⟩ = some (.int .i64 (Pr.tok ts sz s).n) ∧ w.cell? ⟨tg, p * 4 + 3, none⟩ = some (.int .i64 (Pr.tok ts sz s).place) := by
  subst hs
  have e : Pr.tok ts sz s = ts[s.p] := by unfold Pr.tok; rw [List.getElem?_eq_getElem hp]; rfl
  rw [e]
  rcases h.tk with e | ⟨tg, e1, e2, e3⟩
  · subst e; simp at hp
  · exact ⟨tg, e1, e2, e3 s.p hp⟩
/-- Parts stay where the parser alone works, and new blocks come. -/
theorem Ip.Pt.mv {lo lo' : Nat} {v : Value} {l : List Tr.Nd} (h : Ip.Pt lo w v l) (hm : Ip.Mv b w w') (hb : b < lo) (hl : lo' ≤ lo) : Ip.Pt lo' w' v l := h.go hl hm.size (fun q h1 h2 => hm.block q h2 (fun e => by omega))
theorem Ip.Row.mv {lo lo' n : Nat} {v : Value} {l : List Tr.Nd} (h : Ip.Row lo w v n l) (hm : Ip.Mv b w w') (hb : b < lo) (hl : lo' ≤ lo) : Ip.Row lo' w' v n l := h.go hl hm.size (fun q h1 h2 => hm.block q h2 (fun e => by omega))
end
end Go.Proofs.YtfjoecbkagedbaaGreatDoor
namespace Go.Proofs.YtfjoecbkagedbaaGreatDoor
open Go.RowKit
section
variable {b tc sz : Nat} {tp : Option Addr} {ts : List Sc.T} {s : Pr.Dk} {w : World}
/-- What the parser panics with, where it is stuck. -/
def Ip.stuck (q : Nat) : List PanicEntry := [{ v := .iface 73 (.agg #[.int .i64 (q : Int)]), recovered := false }]
set_option maxRecDepth 100000 in
set_option maxHeartbeats 1000000 in
theorem inext_any (h : IP b tp tc ts sz s.p w) :
    Calls Tryz.prog 84 #[.pointer (some ⟨b, 0, none⟩)] w fun e w' => e = .returned (Pr.tokV (Pr.tok ts sz s)) ∧ Below w.heap.size w w' := by
  have hl := h.lt
  have hle := h.le
  have hm := h.most
  have hne : w.heap.size ≠ b := by omega
  have bb : Below w.heap.size w (w.alloc (.cells #[.int .i64 0, .string ⟨#[]⟩, .int .i64 0, .int .i64 0] 54)) := (Below.refl _ _).alloc (Nat.le_refl _) _
  have h' := h.below bb
  have c0 := h'.c0
  have c1 := h'.c1
  have c2 := h'.c2
  by_cases hp : s.p < ts.length
  · obtain ⟨tg, rfl, hlt, k0, k1, k2, k3⟩ := h'.tokAt rfl hp
    have hnt : w.heap.size ≠ tg := by omega
    have hpi : (s.p : Int) < ts.length := by omega
    have hpn : ¬ (s.p : Int) = ts.length := by omega
    clear h'
    go_enter Tryz.func84, Tryz.ntmps84
    go_wp2
    go_region
    go_wp2
    go_region
    go_wp2
    refine bodyPost_ret (v := Pr.tokV (Pr.tok ts sz s)) (by simp [results, Tryz.results84, go_sem, Pr.tokV]) rfl ⟨rfl, ?_⟩
    repeat (first | (refine Below.setCell ?_ (by show w.heap.size ≤ w.heap.size; exact Nat.le_refl _) _) | (refine Below.drew ?_))
    exact (Below.refl _ _).alloc (Nat.le_refl _) _
  · have hpi : (s.p : Int) = ts.length := by omega
    have ht : Pr.tok ts sz s = ⟨0, [], 0, sz⟩ := by unfold Pr.tok; rw [List.getElem?_eq_none (by omega)]; rfl
    rw [ht]
    clear h'
    go_enter Tryz.func84, Tryz.ntmps84
    go_wp2
    go_region
    go_wp2
    refine bodyPost_ret (v := Pr.tokV ⟨0, [], 0, sz⟩) (by simp [results, Tryz.results84, go_sem, Pr.tokV]) rfl ⟨rfl, ?_⟩
    repeat (first | (refine Below.setCell ?_ (by show w.heap.size ≤ w.heap.size; exact Nat.le_refl _) _) | (refine Below.drew ?_))
    exact (Below.refl _ _).alloc (Nat.le_refl _) _
/-- A token is this mark or word. -/
def Ip.sign (x : Sc.T) (t : List UInt8) : Bool := (x.kind == 2 || x.kind == 5) && x.text == t
theorem Pr.is_sign (hb : s.bad = false) (t : List UInt8) : Pr.is ts sz s t = Ip.sign (Pr.tok ts sz s) t := by unfold Pr.is Ip.sign; rw [hb]; simp
set_option maxRecDepth 100000 in
set_option maxHeartbeats 1000000 in
theorem isign_any (x : Sc.T) (t : ByteArray) (w : World) :
    Calls Tryz.prog 83 #[Pr.tokV x, .string t] w fun e w' => e = .returned (.bool (Ip.sign x t.data.toList)) ∧ Below w.heap.size w w' := by
  have HP : Hid (Ip.sign x t.data.toList = ((x.kind == 2 || x.kind == 5) && x.text == t.data.toList)) := hide rfl
  unfold Pr.tokV
  obtain ⟨k, tx, n, pl⟩ := x
  go_enter Tryz.func83, Tryz.ntmps83
  go_wp2
  all_goals
    go_ret
    refine ⟨?_, (Below.refl _ _).alloc (Nat.le_refl _) _⟩
    rw [HP.out]
    simp_all [Lib.toList_data]
    try (intro h; omega)
end
end Go.Proofs.YtfjoecbkagedbaaGreatDoor
namespace Go.Proofs.YtfjoecbkagedbaaGreatDoor
open Go.RowKit
section
variable {b tc sz : Nat} {tp : Option Addr} {ts : List Sc.T} {s : Pr.Dk} {w : World}
set_option maxRecDepth 100000 in
set_option maxHeartbeats 1000000 in
theorem skipN (h : IP b tp tc ts sz s.p w) (hb : s.bad = false) (l : List UInt8) (a : Array UInt8) (ha : a.toList = l) (hi : Pr.is ts sz s l = false) :
    Calls Tryz.prog 62 #[.pointer (some ⟨b, 0, none⟩), .string ⟨a⟩] w fun e w' => e = .returned (.bool false) ∧ IP b tp tc ts sz s.p w' ∧ Below w.heap.size w w' := by
  have HI := hide (inext_any h)
  have HS := hide (isign_any (Pr.tok ts sz s) ⟨a⟩)
  have HH := hide h
  have hsg : Ip.sign (Pr.tok ts sz s) a.toList = false := by rw [ha, ← Pr.is_sign hb]; exact hi
  have hsh : Ip.sign (Pr.tok ts sz s) (⟨a⟩ : ByteArray).data.toList = false := hsg
  rw [hsh] at HS
  clear h
  go_enter Tryz.func62, Tryz.ntmps62
  go_wp2_with fail
  refine HI.out.mono ?_
  rintro e w1 ⟨rfl, hb1⟩
  have HB := hide hb1
  clear hb1
  go_wp2_with fail
  refine (HS.out _).mono ?_
  rintro e w2 ⟨rfl, hb2⟩
  have HB2 := hide (HB.out.trans (hb2.mono HB.out.size))
  clear hb2
  go_wp2
  go_ret
  exact ⟨rfl, HH.out.below HB2.out, HB2.out⟩
set_option maxRecDepth 100000 in
set_option maxHeartbeats 1000000 in
theorem skipY (h : IP b tp tc ts sz s.p w) (l : List UInt8) (a : Array UInt8) (ha : a.toList = l) (hi : Pr.is ts sz s l = true) :
    Calls Tryz.prog 62 #[.pointer (some ⟨b, 0, none⟩), .string ⟨a⟩] w fun e w' => e = .returned (.bool true) ∧ IP b tp tc ts sz (Pr.adv s).p w' ∧ Ip.Mv b w w' := by
  have HI := hide (inext_any h)
  have HS := hide (isign_any (Pr.tok ts sz s) ⟨a⟩)
  have HH := hide h
  have hm := h.most
  have hp := Pr.is_lt hi
  have hsh : Ip.sign (Pr.tok ts sz s) (⟨a⟩ : ByteArray).data.toList = true := by show Ip.sign _ a.toList = true; rw [ha, ← Pr.is_sign (Pr.is_fine hi)]; exact hi
  rw [hsh] at HS
  clear h
  go_enter Tryz.func62, Tryz.ntmps62
  go_wp2_with fail
  refine HI.out.mono ?_
  rintro e w1 ⟨rfl, hb1⟩
  have HB := hide hb1
  clear hb1
  go_wp2_with fail
  refine (HS.out _).mono ?_
  rintro e w2 ⟨rfl, hb2⟩
  have HB2 := hide (HB.out.trans (hb2.mono HB.out.size))
  clear hb2
  have hd := HH.out.below HB2.out
  have c1 := hd.c1
  have f1 := hd.fr 1
  have HD := hide hd
  clear hd
  go_wp2
  go_ret
  exact ⟨rfl, HD.out.adv hp, Ip.Mv.t (.below HB2.out) (.set _ _ _ _)⟩
theorem nwField (q : Int) (W : World) : Sem.run Tryz.prog (Instr.field 54 (Value.agg #[.int .i64 0, .string ⟨#[]⟩, .int .i64 0, .int .i64 q]) 3) W = .ok (.int .i64 q) W := by kernel_rfl
set_option maxRecDepth 100000 in
set_option maxHeartbeats 1000000 in
theorem istuck_any (h : IP b tp tc ts sz s.p w) :
    Calls Tryz.prog 68 #[.pointer (some ⟨b, 0, none⟩)] w fun e w' => e = .returned (.agg #[.int .i64 ((Pr.tok ts sz s).place : Int)]) ∧ Below w.heap.size w w' := by
  have bb : Below w.heap.size w (w.alloc (.cells #[.int .i64 0] 73)) := (Below.refl _ _).alloc (Nat.le_refl _) _
  have HI := hide (inext_any (h.below bb))
  have HB0 := hide bb
  have hsz : (w.alloc (.cells #[.int .i64 0] 73)).heap.size = w.heap.size + 1 := by simp
  have hf3 := tokField3 (Pr.tok ts sz s).kind (Pr.tok ts sz s).n (Pr.tok ts sz s).place ⟨(Pr.tok ts sz s).text.toArray⟩
  have hc0 : (w.alloc (.cells #[.int .i64 0] 73)).cell? ⟨w.heap.size, 0, none⟩ = some (.int .i64 0) := by simp [go_sem]
  have hf0 : (w.alloc (.cells #[.int .i64 0] 73)).frozen? ⟨w.heap.size, 0, none⟩ = false := by simp [go_sem]
  clear h bb
  go_enter Tryz.func68, Tryz.ntmps68
  go_wp2_with fail
  refine HI.out.mono ?_
  rintro e w1 ⟨rfl, hb1⟩
  have c0 := (hb1.cell (p := ⟨w.heap.size, 0, none⟩) (by rw [hsz]; exact Nat.lt_succ_self _)).trans hc0
  have f0 := (hb1.frozen (p := ⟨w.heap.size, 0, none⟩) (by rw [hsz]; exact Nat.lt_succ_self _)).trans hf0
  have HB := hide (HB0.out.trans (hb1.mono (by rw [hsz]; omega)))
  clear hb1 hc0 hf0
  unfold Pr.tokV
  go_wp2
  refine bodyPost_ret (v := .agg #[.int .i64 ((Pr.tok ts sz s).place : Int)]) (by simp [results, Tryz.results68, go_sem, c0]) rfl ⟨rfl, ?_⟩
  exact HB.out.setCell (Nat.le_refl _) _
set_option maxRecDepth 100000 in
set_option maxHeartbeats 1000000 in
theorem wantY (h : IP b tp tc ts sz s.p w) (l : List UInt8) (a : Array UInt8) (ha : a.toList = l) (hi : Pr.is ts sz s l = true) :
    Calls Tryz.prog 66 #[.pointer (some ⟨b, 0, none⟩), .string ⟨a⟩] w fun e w' => e = .returned (.tuple #[]) ∧ IP b tp tc ts sz (Pr.adv s).p w' ∧ Ip.Mv b w w' := by
  have HI := hide (skipY h l a ha hi)
  clear h
  go_enter Tryz.func66, Tryz.ntmps66
  go_wp2_with fail
  refine HI.out.mono ?_
  rintro e w1 ⟨rfl, hd, hb1⟩
  have HD := hide hd
  have HB := hide hb1
  clear hb1 hd
  go_wp2
  (first | go_end0 | refine bodyPost_ret (results_none rfl _ _ _) rfl ?_)
  exact ⟨rfl, HD.out, HB.out⟩
set_option maxRecDepth 100000 in
set_option maxHeartbeats 1000000 in
theorem wantN (h : IP b tp tc ts sz s.p w) (hb : s.bad = false) (l : List UInt8) (a : Array UInt8) (ha : a.toList = l) (hi : Pr.is ts sz s l = false) :
    Calls Tryz.prog 66 #[.pointer (some ⟨b, 0, none⟩), .string ⟨a⟩] w fun e w' => e = .panicked (Ip.stuck (Pr.tok ts sz s).place) ∧ Ip.Mv b w w' := by
  have HI := hide (skipN h hb l a ha hi)
  clear h
  go_enter Tryz.func66, Tryz.ntmps66
  go_wp2_with fail
  refine HI.out.mono ?_
  rintro e w1 ⟨rfl, hd, hb1⟩
  have HS := hide (istuck_any (s := s) hd)
  have HB := hide hb1
  clear hb1 hd
  go_wp2_with fail
  refine HS.out.mono ?_
  rintro e w2 ⟨rfl, hb2⟩
  have HB2 := hide (HB.out.trans (hb2.mono HB.out.size))
  clear hb2
  go_wp2
  exact ⟨rfl, rfl, .below HB2.out⟩
set_option maxRecDepth 100000 in
set_option maxHeartbeats 1000000 in
theorem itakeY (h : IP b tp tc ts sz s.p w) (k : Nat) (hk0 : k ≠ 0) (hk : (Pr.tok ts sz s).kind = k) :
    Calls Tryz.prog 85 #[.pointer (some ⟨b, 0, none⟩), .int .i64 k] w fun e w' => e = .returned (Pr.tokV (Pr.tok ts sz s)) ∧ IP b tp tc ts sz (Pr.adv s).p w' ∧ Ip.Mv b w w' := by
  have hp : s.p < ts.length := Pr.tok_lt (sz := sz) (by rw [hk]; exact hk0)
  have hm := h.most
  have hl := h.lt
  have bb : Below w.heap.size w (w.alloc (.cells #[.int .i64 0, .string ⟨#[]⟩, .int .i64 0, .int .i64 0] 54)) := (Below.refl _ _).alloc (Nat.le_refl _) _
  have HI := hide (inext_any (h.below bb))
  have HH := hide h
  have HB0 := hide bb
  have hsz : (w.alloc (.cells #[.int .i64 0, .string ⟨#[]⟩, .int .i64 0, .int .i64 0] 54)).heap.size = w.heap.size + 1 := by simp
  have hki : ((Pr.tok ts sz s).kind : Int) = (k : Int) := by rw [hk]
  have hob : ∀ W : World, Below (w.heap.size + 1) (w.alloc (.cells #[.int .i64 0, .string ⟨#[]⟩, .int .i64 0, .int .i64 0] 54)) W → W.heap[w.heap.size]? = some (.cells #[.int .i64 0, .string ⟨#[]⟩, .int .i64 0, .int .i64 0] 54 (0, 0)) := fun W hW => (hW.block _ (Nat.lt_succ_self _)).trans (heap_alloc_new w _)
  have HO := hide hob
  clear h bb hob
  go_enter Tryz.func85, Tryz.ntmps85
  go_wp2_with fail
  refine HI.out.mono ?_
  rintro e w1 ⟨rfl, hb1⟩
  rw [hsz] at hb1
  have HB := hide (HB0.out.trans (hb1.mono (Nat.le_succ _)))
  have hz1 := hb1.size
  rw [hsz] at hz1
  have ho := (Below.heap_alloc w1 (.cells #[.int .i64 (k : Int), .string ⟨(Pr.tok ts sz s).text.toArray⟩, .int .i64 (Pr.tok ts sz s).n, .int .i64 (Pr.tok ts sz s).place] 54) w.heap.size (by omega)).trans (HO.out _ hb1)
  have hd := HH.out.below (HB.out.trans (((Below.refl w1.heap.size w1).alloc (Nat.le_refl _) (.cells #[.int .i64 (k : Int), .string ⟨(Pr.tok ts sz s).text.toArray⟩, .int .i64 (Pr.tok ts sz s).n, .int .i64 (Pr.tok ts sz s).place] 54)).mono HB.out.size))
  have c1 := hd.c1
  have f1 := hd.fr 1
  have HD := hide hd
  clear hd hb1
  unfold Pr.tokV
  rw [hki]
  have hne1 : b ≠ w1.heap.size := by omega
  have hne2 : w.heap.size ≠ b := by omega
  have hne3 : w.heap.size ≠ w1.heap.size := by omega
  have d0 : (w1.alloc (.cells #[.int .i64 (k : Int), .string ⟨(Pr.tok ts sz s).text.toArray⟩, .int .i64 (Pr.tok ts sz s).n, .int .i64 (Pr.tok ts sz s).place] 54)).cell? ⟨w.heap.size, 0, none⟩ = some (.int .i64 0) := by simp only [World.cell?, ho]; rfl
  have e0 : (w1.alloc (.cells #[.int .i64 (k : Int), .string ⟨(Pr.tok ts sz s).text.toArray⟩, .int .i64 (Pr.tok ts sz s).n, .int .i64 (Pr.tok ts sz s).place] 54)).frozen? ⟨w.heap.size, 0, none⟩ = false := by simp [World.frozen?, ho]
  have d1 : (w1.alloc (.cells #[.int .i64 (k : Int), .string ⟨(Pr.tok ts sz s).text.toArray⟩, .int .i64 (Pr.tok ts sz s).n, .int .i64 (Pr.tok ts sz s).place] 54)).cell? ⟨w.heap.size, 1, none⟩ = some (.string ⟨#[]⟩) := by simp only [World.cell?, ho]; rfl
  have e1 : (w1.alloc (.cells #[.int .i64 (k : Int), .string ⟨(Pr.tok ts sz s).text.toArray⟩, .int .i64 (Pr.tok ts sz s).n, .int .i64 (Pr.tok ts sz s).place] 54)).frozen? ⟨w.heap.size, 1, none⟩ = false := by simp [World.frozen?, ho]
  have d2 : (w1.alloc (.cells #[.int .i64 (k : Int), .string ⟨(Pr.tok ts sz s).text.toArray⟩, .int .i64 (Pr.tok ts sz s).n, .int .i64 (Pr.tok ts sz s).place] 54)).cell? ⟨w.heap.size, 2, none⟩ = some (.int .i64 0) := by simp only [World.cell?, ho]; rfl
  have e2 : (w1.alloc (.cells #[.int .i64 (k : Int), .string ⟨(Pr.tok ts sz s).text.toArray⟩, .int .i64 (Pr.tok ts sz s).n, .int .i64 (Pr.tok ts sz s).place] 54)).frozen? ⟨w.heap.size, 2, none⟩ = false := by simp [World.frozen?, ho]
  have d3 : (w1.alloc (.cells #[.int .i64 (k : Int), .string ⟨(Pr.tok ts sz s).text.toArray⟩, .int .i64 (Pr.tok ts sz s).n, .int .i64 (Pr.tok ts sz s).place] 54)).cell? ⟨w.heap.size, 3, none⟩ = some (.int .i64 0) := by simp only [World.cell?, ho]; rfl
  have e3 : (w1.alloc (.cells #[.int .i64 (k : Int), .string ⟨(Pr.tok ts sz s).text.toArray⟩, .int .i64 (Pr.tok ts sz s).n, .int .i64 (Pr.tok ts sz s).place] 54)).frozen? ⟨w.heap.size, 3, none⟩ = false := by simp [World.frozen?, ho]
  clear ho
  go_wp2
  refine bodyPost_ret (v := .agg #[.int .i64 (k : Int), .string ⟨(Pr.tok ts sz s).text.toArray⟩, .int .i64 (Pr.tok ts sz s).n, .int .i64 (Pr.tok ts sz s).place]) (by simp [results, Tryz.results85, go_sem, d0, d1, d2, d3]) rfl ⟨by rw [← hki]; rfl, ?_⟩
  have BB : ∀ (W : World) (v0 v1 v2 v3 : Value), Below w.heap.size W ((((W.setCell ⟨w.heap.size, 0, none⟩ v0).setCell ⟨w.heap.size, 1, none⟩ v1).setCell ⟨w.heap.size, 2, none⟩ v2).setCell ⟨w.heap.size, 3, none⟩ v3) := fun W _ _ _ _ => by
    repeat (refine Below.setCell ?_ (by show w.heap.size ≤ w.heap.size; exact Nat.le_refl _) _)
    exact Below.refl _ _
  exact ⟨(HD.out.adv hp).fresh (BB _ _ _ _ _) hl, Ip.Mv.fresh (Ip.Mv.t (.below (HB.out.alloc HB.out.size _)) (.set _ _ _ _)) (BB _ _ _ _ _) (Nat.le_refl _)⟩
set_option maxRecDepth 100000 in
set_option maxHeartbeats 1000000 in
theorem itakeN (h : IP b tp tc ts sz s.p w) (k : Nat) (hk : (Pr.tok ts sz s).kind ≠ k) :
    Calls Tryz.prog 85 #[.pointer (some ⟨b, 0, none⟩), .int .i64 k] w fun e w' => e = .panicked (Ip.stuck (Pr.tok ts sz s).place) ∧ Ip.Mv b w w' := by
  have bb : Below w.heap.size w (w.alloc (.cells #[.int .i64 0, .string ⟨#[]⟩, .int .i64 0, .int .i64 0] 54)) := (Below.refl _ _).alloc (Nat.le_refl _) _
  have HI := hide (inext_any (h.below bb))
  have HH := hide h
  have HB0 := hide bb
  have hsz : (w.alloc (.cells #[.int .i64 0, .string ⟨#[]⟩, .int .i64 0, .int .i64 0] 54)).heap.size = w.heap.size + 1 := by simp
  have hki : ¬ ((Pr.tok ts sz s).kind : Int) = (k : Int) := by omega
  clear h bb
  go_enter Tryz.func85, Tryz.ntmps85
  go_wp2_with fail
  refine HI.out.mono ?_
  rintro e w1 ⟨rfl, hb1⟩
  rw [hsz] at hb1
  have HB := hide (HB0.out.trans (hb1.mono (Nat.le_succ _)))
  have HB2 := hide (HB.out.trans (((Below.refl w1.heap.size w1).alloc (Nat.le_refl _) (.cells #[.int .i64 (Pr.tok ts sz s).kind, .string ⟨(Pr.tok ts sz s).text.toArray⟩, .int .i64 (Pr.tok ts sz s).n, .int .i64 (Pr.tok ts sz s).place] 54)).mono HB.out.size))
  have HS := hide (istuck_any (s := s) (HH.out.below HB2.out))
  clear hb1
  unfold Pr.tokV
  go_wp2_with fail
  refine HS.out.mono ?_
  rintro e w2 ⟨rfl, hb2⟩
  have HB3 := hide (HB2.out.trans (hb2.mono HB2.out.size))
  clear hb2
  go_wp2
  exact ⟨rfl, rfl, .below HB3.out⟩
end
end Go.Proofs.YtfjoecbkagedbaaGreatDoor
namespace Go.Proofs.YtfjoecbkagedbaaGreatDoor
open Go.RowKit
set_option maxRecDepth 100000 in
set_option maxHeartbeats 4000000 in
theorem newPart_any (k o m c0 : Int) (t : ByteArray) (p : Option Addr) (n c : Nat) (w : World) :
    Calls Tryz.prog 37 #[.agg #[.int .i64 k, .int .i64 o, .int .i64 m, .string t, .int .i64 c0], .slice p n c] w fun e w' => e = .returned (Ip.pv ⟨k, o, m, t, n⟩ (.slice p n c)) ∧ Below w.heap.size w w' := by
  have HP : Hid (∀ k : Int, Ip.pv ⟨k, o, m, t, n⟩ (.slice p n c) = .iface (Ip.ty k) (.agg #[.int .i64 k, .int .i64 o, .int .i64 m, .string t, .int .i64 n, .slice p n c])) := hide (fun _ => rfl)
  rw [HP.out]
  go_enter Tryz.func37, Tryz.ntmps37
  go_wp2
  all_goals
    go_ret
    refine ⟨?_, ?_⟩
    · clear HP; simp only [Ip.ty, *, cond_true, cond_false]; rfl
    · repeat (first | (refine Below.setCell ?_ (by show w.heap.size ≤ w.heap.size; exact Nat.le_refl _) _) | (refine Below.alloc ?_ (by simp) _))
      exact Below.refl _ _
end Go.Proofs.YtfjoecbkagedbaaGreatDoor
