/- Pi, Pk, Pl, Pm. -/
import Derived.Test.YtfjoecbkagedbaaGreatDoorY07
import Derived.Maps.AppendAt
namespace Go.Proofs.YtfjoecbkagedbaaGreatDoor
open Go.RowKit
section
variable {b tc sz : Nat} {tp : Option Addr} {ts : List Sc.T} {w w0 w' W : World} {lo n : Nat} {v v1 v2 v3 : Value} {l l1 l2 l3 : List Tr.Nd} {x : Tr.Nd} {o : Obj}
/-- A part comes out, its nodes those that the desk has put out; or the parser panics where the desk gets stuck. -/
def Ip.Out (b : Nat) (tp : Option Addr) (tc : Nat) (ts : List Sc.T) (sz : Nat) (c : Pr.Cmd) (s : Pr.Dk) (w : World) (e : Ending) (w' : World) : Prop :=
  (∃ (r : Pr.Dk × Nat) (v : Value) (l : List Tr.Nd), e = .returned v ∧ Pr.Cv ts sz c s r ∧ r.1.bad = false ∧ r.1.out = s.out ++ l ∧ IP b tp tc ts sz r.1.p w' ∧ Ip.Mv b w w' ∧ Ip.Pt w.heap.size w' v l) ∨
  (∃ q, e = .panicked (Ip.stuck q) ∧ Pr.Ends ts sz c s q ∧ Ip.Mv b w w')
/-- A method does so, from a desk d that has come from s. -/
def Ip.Does (b : Nat) (tp : Option Addr) (tc : Nat) (ts : List Sc.T) (sz : Nat) (f : Nat) (args : Array Value) (c : Pr.Cmd) (s d : Pr.Dk) : Prop := ∀ w, IP b tp tc ts sz d.p w → Calls Tryz.prog f args w (Ip.Out b tp tc ts sz c s w)
abbrev Ip.DE (b : Nat) (tp : Option Addr) (tc : Nat) (ts : List Sc.T) (sz : Nat) (d : Pr.Dk) : Prop := Ip.Does b tp tc ts sz 65 #[.pointer (some ⟨b, 0, none⟩)] .e d d
theorem Ip.Pt.low (h : Ip.Pt lo w v l) {lo' : Nat} (hl : lo' ≤ lo) : Ip.Pt lo' w v l := h.go hl (Nat.le_refl _) (fun _ _ _ => rfl)
theorem Ip.Row.low (h : Ip.Row lo w v n l) {lo' : Nat} (hl : lo' ≤ lo) : Ip.Row lo' w v n l := h.go hl (Nat.le_refl _) (fun _ _ _ => rfl)
theorem Ip.Pt.iface (h : Ip.Pt lo w v l) : ∃ t u, v = .iface t u := by
  obtain ⟨n, h⟩ := h
  cases n with
  | zero => exact h.elim
  | succ n => obtain ⟨x, sl, xs, r, h1, _⟩ := h; exact ⟨_, _, h1⟩
/-- Parts that are put into a new slice. -/
def Ip.Some (lo : Nat) (w : World) (vs : List Value) (l : List Tr.Nd) : Prop := ∃ m, Ip.Kids (Ip.At (fun q => lo ≤ q ∧ q < w.heap.size) w m) vs l
theorem Ip.some1 (h1 : Ip.Pt lo w v1 l1) : Ip.Some lo w [v1] l1 := by
  obtain ⟨m, h1⟩ := h1
  exact ⟨m, .one h1⟩
theorem Ip.Some.cons {vs : List Value} (h1 : Ip.Pt lo w v1 l1) (h2 : Ip.Some lo w vs l2) : Ip.Some lo w (v1 :: vs) (l1 ++ l2) := by
  obtain ⟨m, h1⟩ := h1
  obtain ⟨k, h2⟩ := h2
  exact ⟨m + k, .cons (h1.le (Nat.le_add_right _ _)) (h2.mono (fun _ _ e => e.le (Nat.le_add_left _ _)))⟩
theorem Ip.some2 (h1 : Ip.Pt lo w v1 l1) (h2 : Ip.Pt lo w v2 l2) : Ip.Some lo w [v1, v2] (l1 ++ l2) := .cons h1 (Ip.some1 h2)
theorem Ip.some3 (h1 : Ip.Pt lo w v1 l1) (h2 : Ip.Pt lo w v2 l2) (h3 : Ip.Pt lo w v3 l3) : Ip.Some lo w [v1, v2, v3] (l1 ++ (l2 ++ l3)) := .cons h1 (.cons h2 (Ip.some1 h3))
theorem row_lit (w : World) (vs : List Value) (t : TypeId) (lo : Nat) (hl : lo ≤ w.heap.size) (hn : vs.length ≤ 1000) : (w.alloc (.cells vs.toArray t)).ownsRow lo t 1 (.slice (some ⟨w.heap.size, 0, none⟩) vs.length vs.length) vs.length vs := by
  refine ⟨by omega, .inr ⟨w.heap.size, vs.length, vs.toArray, rfl, hl, heap_alloc_new w _, Nat.le_refl _, by unfold maxLen; omega, by simp, by simp⟩⟩
/-- The slice that has been made. -/
theorem Ip.Some.row {vs : List Value} (h : Ip.Some lo w vs l) (hl : lo ≤ w.heap.size) (hn : vs.length ≤ 1000) : Ip.Row lo (w.alloc (.cells vs.toArray 46)) (.slice (some ⟨w.heap.size, 0, none⟩) vs.length vs.length) vs.length l := by
  obtain ⟨m, h⟩ := h
  refine ⟨vs, m, row_lit w vs _ lo hl hn, h.mono (fun _ _ k => k.go (fun q e => ⟨e.1, ?_, ?_⟩) (fun q e => Below.heap_alloc w _ q e.2))⟩
  · have : (w.alloc (.cells vs.toArray 46)).heap.size = w.heap.size + 1 := by simp
    rw [this]; omega
  · intro e'
    have e' : some w.heap.size = some q := e'
    cases e'
    exact absurd e.2 (Nat.lt_irrefl _)
/-- A part out of a row. -/
theorem Ip.Row.made (h : Ip.Row lo w v n l) (hx : x.kids = (n : Int)) : Ip.Pt lo w (Ip.pv x v) (l ++ [x]) := by
  have hlt := fun q e => h.lt (q := q) e
  obtain ⟨xs, m, h1, h2⟩ := h
  have hn : xs.length = n := by have := h1.1; omega
  exact ⟨m + 1, x, v, xs, l, rfl, by rw [hn]; exact hx, by rw [hn]; exact row_own h1 (fun _ _ => Nat.zero_le _) (fun _ _ => rfl), hlt, h2.mono (fun _ _ k => k.go (fun q e => ⟨e.1, e.2.1⟩) (fun _ _ => rfl)), rfl⟩
theorem Ip.Pt.below (h : Ip.Pt lo w v l) (hb : Below w.heap.size w w') : Ip.Pt lo w' v l := h.go (Nat.le_refl _) hb.size (fun q _ hq => hb.block q hq)
theorem Ip.Row.below (h : Ip.Row lo w v n l) (hb : Below w.heap.size w w') : Ip.Row lo w' v n l := h.go (Nat.le_refl _) hb.size (fun q _ hq => hb.block q hq)
theorem Ip.Mv.more (h : Ip.Mv b w0 w) (hb : Below w.heap.size w w') : Ip.Mv b w0 w' := Ip.Mv.t h (.below hb)
theorem below_new (w : World) (o : Obj) : Below w.heap.size w (w.alloc o) := (Below.refl _ _).alloc (Nat.le_refl _) _
/-- A new slice is laid, and then new blocks. -/
theorem below_lit (hb : Below (w.alloc o).heap.size (w.alloc o) W) : Below w.heap.size w W := (below_new w o).trans (hb.mono (by simp))
theorem tokField1 (k n q : Int) (t : ByteArray) (W : World) : Sem.run Tryz.prog (Instr.field 54 (Value.agg #[.int .i64 k, .string t, .int .i64 n, .int .i64 q]) 1) W = .ok (.string t) W := by kernel_rfl
theorem tokField2 (k n q : Int) (t : ByteArray) (W : World) : Sem.run Tryz.prog (Instr.field 54 (Value.agg #[.int .i64 k, .string t, .int .i64 n, .int .i64 q]) 2) W = .ok (.int .i64 n) W := by kernel_rfl
end
end Go.Proofs.YtfjoecbkagedbaaGreatDoor
namespace Go.Proofs.YtfjoecbkagedbaaGreatDoor
open Go.RowKit
theorem Tryz.infoPart : (Tryz.prog.info? 46).map (fun i => (i.zero, i.size, i.bytes)) = some (some .nilIface, 1, 16) := by kernel_rfl
theorem cell_litI (W : World) (v : Value) (t : TypeId) (q : Nat) (hq : q = W.heap.size) : ∀ (j : Nat) (u : Value), [v][j]? = some u → (W.alloc (.cells #[v] t)).cell? ((⟨q, 0, none⟩ : Addr).add j) = some u := by
  intro j u hu
  subst hq
  rw [add_plainP, Nat.zero_add, World.cell?, heap_alloc_new']
  simpa using hu
/-- A part is put behind the others of a slice. -/
theorem wp_push {ops : Array Oper} {rest : List Oper} {o : Oper} {a : Act} {w : World} {Q : Exit → Act → World → Prop} (hgd : o.guard = none) (s x : Operand) (ho : o.op = .call { callee := .builtin .append, args := #[s, x], argTypes := #[75, 75] })
    (lo lo' n : Nat) (sv v : Value) (l la : List Tr.Nd) (hr : Ip.Row lo w sv n l) (hv : Ip.Pt lo' w v la) (hll : lo ≤ lo') (hlw : lo ≤ w.heap.size) (hap : ∀ q, sv.ownBlock = some q → q < lo') (hn : n ≤ 2000000) (hs : a.eval s = sv) (hx : a.eval x = .slice (some ⟨w.heap.size, 0, none⟩) 1 1)
    (h : ∀ v' w', Ip.Row lo w' v' (n + 1) (l ++ la) → Below lo w w' → wpList Tryz.prog ops Q rest (a.put o.dst v') w') : wpList Tryz.prog ops Q (o :: rest) a (w.alloc (.cells #[v] 46)) := by
  obtain ⟨iN, hN, hNz, hNs, hNb⟩ := info_parts Tryz.infoPart
  have hlt := fun q e => hr.lt (q := q) e
  obtain ⟨xs, m, h1, h2⟩ := hr
  obtain ⟨k, hv⟩ := hv
  have hsz : (w.alloc (.cells #[v] 46)).heap.size = w.heap.size + 1 := by simp
  have ha : ∀ q, q < w.heap.size → (w.alloc (.cells #[v] 46)).heap[q]? = w.heap[q]? := fun q hq => Below.heap_alloc w _ q hq
  have h1' : (w.alloc (.cells #[v] 46)).ownsRow lo 46 1 sv n xs := row_own h1 (fun q e => (hlt q e).1) (fun q e => ha q (hlt q e).2)
  refine wpList_append_own_at _ hgd s x 75 ho lo 46 iN _ 1 16 Tryz.underlying75 hN hNz hNs hNb rfl (by decide) sv n xs hs h1' ⟨w.heap.size, 0, none⟩ 1 1 [v] hx rfl (cell_litI w v _ _ rfl) (by intro u hu; simp only [List.mem_cons, List.not_mem_nil, or_false] at hu; rw [hu]; exact hv.one) (by unfold maxLen; omega) (by omega) (by rw [hsz]; omega) ?_
  intro v' w' r1 r2 _ r4
  refine h v' w' (Ip.Row.push (w := w.alloc (.cells #[v] 46)) (sv := sv) (m := m) (k := k) (h2.mono (fun _ _ e => e.go (fun q z => ⟨z.1, by rw [hsz]; omega, z.2.2⟩) (fun q z => ha q z.2.1))) (hv.go (fun q z => ⟨Nat.le_trans hll z.1, by rw [hsz]; omega, fun e => by have := hap q e; omega⟩) (fun q z => ha q z.2)) r1 r2 r4) ?_
  refine ⟨r2.os, r2.tape, r2.output, ?_, fun q hq => (r2.block q (by rw [hsz]; omega) (fun e => ?_)).trans (ha q (by omega))⟩
  · have := r2.size; rw [hsz] at this; omega
  · have := (hlt q e.symm).1; omega
end Go.Proofs.YtfjoecbkagedbaaGreatDoor
namespace Go.Proofs.YtfjoecbkagedbaaGreatDoor
open Go.RowKit
/-- All blocks but the parser's and one more are as they were. -/
abbrev Ip.Mw (b nb : Nat) (w w' : World) : Prop := Pr.Mv (fun q => q = b ∨ q = nb) w w'
section
variable {b nb tc sz lo m : Nat} {tp : Option Addr} {ts : List Sc.T} {w w' w'' : World}
theorem Ip.Mv.wide (h : Ip.Mv b w w') (nb : Nat) : Ip.Mw b nb w w' := ⟨h.os, h.tape, h.output, h.size, fun q hq e => h.block q hq (fun x => e (.inl x))⟩
theorem Ip.Mw.t (h : Ip.Mw b nb w w') (k : Ip.Mw b nb w' w'') : Ip.Mw b nb w w'' := Pr.Mv.trans h k (fun _ _ e => e) (fun _ _ e => e)
theorem Ip.Mw.fresh (h : Ip.Mw b nb w w') {n : Nat} (k : Below n w' w'') (hn : w.heap.size ≤ n) : Ip.Mw b nb w w'' := ⟨k.os.trans h.os, k.tape.trans h.tape, k.output.trans h.output, Nat.le_trans h.size k.size, fun q hq e => (k.block q (Nat.lt_of_lt_of_le hq hn)).trans (h.block q hq e)⟩
theorem Ip.Mw.one (h : Ip.Mw b b w w') : Ip.Mv b w w' := ⟨h.os, h.tape, h.output, h.size, fun q hq e => h.block q hq (fun x => e (x.elim id id))⟩
theorem Ip.Mw.off (h : Ip.Mw b nb w w') (hn : w.heap.size ≤ nb) : Ip.Mv b w w' := ⟨h.os, h.tape, h.output, h.size, fun q hq e => h.block q hq (fun x => x.elim e (fun y => by omega))⟩
theorem Ip.Row.mw {lo' n : Nat} {v : Value} {l : List Tr.Nd} (h : Ip.Row lo w v n l) (hm : Ip.Mw b nb w w') (hb : b < lo) (hn : nb < lo) (hl : lo' ≤ lo) : Ip.Row lo' w' v n l := h.go hl hm.size (fun q h1 h2 => hm.block q h2 (fun e => by omega))
/-- How many tokens are left. -/
def Ip.left (b : Nat) (ts : List Sc.T) (w : World) : Nat := ts.length - (intOf ((w.cell? ⟨b, 1, none⟩).getD (.int .i64 0))).toNat
theorem IP.left {p : Nat} (h : IP b tp tc ts sz p w) : Ip.left b ts w = ts.length - p := by unfold Ip.left; rw [h.c1]; simp [intOf]
/-- One more of some: what has been read, and what that says of the whole. -/
def Ip.Item (b : Nat) (tp : Option Addr) (tc : Nat) (ts : List Sc.T) (sz nb : Nat) (Inv : Bool → World → Prop) (Fin : Nat → Bool → Pr.Dk → Pr.Dk → Nat → Prop) (Bad : Nat → Bool → Pr.Dk → Nat → Prop) (i : Nat) (f : Bool) (s : Pr.Dk) (w : World) (e : Ending) (w' : World) : Prop :=
  (∃ (t : Pr.Dk) (f' : Bool) (v : Value) (l : List Tr.Nd), e = .returned v ∧ t.bad = false ∧ t.out = s.out ++ l ∧ s.p ≤ t.p ∧ IP b tp tc ts sz t.p w' ∧ Ip.Mw b nb w w' ∧ Ip.Pt w.heap.size w' v l ∧ Inv f' w' ∧
    (Pr.is ts sz t [44] = true → (∀ u n, Fin (i + 1) f' (Pr.adv t) u n → Fin i f s u n) ∧ (∀ q, Bad (i + 1) f' (Pr.adv t) q → Bad i f s q)) ∧ (Pr.is ts sz t [44] = false → Fin i f s t (i + 1))) ∨
  (∃ q, e = .panicked (Ip.stuck q) ∧ Bad i f s q ∧ Ip.Mw b nb w w')
def Ip.Items (b : Nat) (tp : Option Addr) (tc : Nat) (ts : List Sc.T) (sz nb lo m : Nat) (Inv : Bool → World → Prop) (Fin : Nat → Bool → Pr.Dk → Pr.Dk → Nat → Prop) (Bad : Nat → Bool → Pr.Dk → Nat → Prop) (g : Pr.Dk → Bool) (K : Nat) (args : Array Value) : Prop :=
  ∀ i f (s : Pr.Dk), (i == 0 && g s) = false → m ≤ s.p → s.p ≤ ts.length → s.bad = false → ∀ w, lo ≤ w.heap.size → IP b tp tc ts sz s.p w → Inv f w → Calls Tryz.prog K args w (Ip.Item b tp tc ts sz nb Inv Fin Bad i f s w)
/-- What comes of some. -/
def Ip.Many (b : Nat) (tp : Option Addr) (tc : Nat) (ts : List Sc.T) (sz nb : Nat) (Fin : Nat → Bool → Pr.Dk → Pr.Dk → Nat → Prop) (Bad : Nat → Bool → Pr.Dk → Nat → Prop) (f : Bool) (s : Pr.Dk) (w : World) (e : Ending) (w' : World) : Prop :=
  (∃ (t : Pr.Dk) (n : Nat) (sv : Value) (l : List Tr.Nd), e = .returned sv ∧ Fin 0 f s t n ∧ t.bad = false ∧ Pr.is ts sz t [44] = false ∧ t.out = s.out ++ l ∧ s.p ≤ t.p ∧ IP b tp tc ts sz t.p w' ∧ Ip.Mw b nb w w' ∧ Ip.Row w.heap.size w' sv n l ∧ 1 ≤ n ∧ n ≤ ts.length + 1) ∨
  (∃ q, e = .panicked (Ip.stuck q) ∧ Bad 0 f s q ∧ Ip.Mw b nb w w')
def Ip.Keeps (b lo : Nat) (Inv : Bool → World → Prop) : Prop := ∀ f w w', Inv f w → (∀ q, q < lo → q ≠ b → w'.heap[q]? = w.heap[q]?) → Inv f w'
theorem Ip.Keeps.use {Inv : Bool → World → Prop} (h : Ip.Keeps b lo Inv) {f : Bool} (hv : Inv f w) (hw : ∀ q, q < lo → q ≠ b → w'.heap[q]? = w.heap[q]?) : Inv f w' := h f w w' hv hw
set_option maxRecDepth 100000 in
set_option maxHeartbeats 4000000 in
theorem some_any {Inv : Bool → World → Prop} {Fin : Nat → Bool → Pr.Dk → Pr.Dk → Nat → Prop} {Bad : Nat → Bool → Pr.Dk → Nat → Prop} {g : Pr.Dk → Bool} {K : Nat} {fst cap : Array Value} (hK : Ip.Keeps b lo Inv) (hI : Ip.Items b tp tc ts sz nb lo m Inv Fin Bad g K (fst ++ cap)) (hnb : nb < lo) (hE : ∀ w, Sem.run Tryz.prog (callFunc K (fst ++ cap)) w = .ok (.enter K (fst ++ cap)) w)
    {f : Bool} {s : Pr.Dk} (hg : g s = false) (hm0 : m ≤ s.p) (hbad : s.bad = false) {w0 : World} (hlo : lo ≤ w0.heap.size) (hd0 : IP b tp tc ts sz s.p w0) (hv0 : Inv f w0) :
    Calls Tryz.prog 89 #[.pointer (some ⟨b, 0, none⟩), .func (.func K) fst cap] w0 (Ip.Many b tp tc ts sz nb Fin Bad f s w0) := by
  have hlt := hd0.lt
  have hmost := hd0.most
  have Q := hide (hI 0 f s (by rw [hg]; rfl) hm0 hd0.le hbad w0 hlo hd0 hv0)
  have HK := hide hK
  have HI := hide hI
  clear hd0 hI hK
  go_enter Tryz.func89, Tryz.ntmps89
  go_wp2_with fail
  refine Q.out.mono ?_
  rintro e w1 (⟨t1, f1, v1, l1, rfl, hb1, ho1, hp1, hd1, hm1, hpt1, hv1, hgo1, hend1⟩ | ⟨q, rfl, hq, hm1⟩)
  rotate_left
  · exact ⟨rfl, .inr ⟨_, rfl, hq, hm1⟩⟩
  obtain ⟨c1, u1, rfl⟩ := hpt1.iface
  have hr1 : Ip.Row w0.heap.size (w1.alloc (.cells #[.iface c1 u1] 46)) (.slice (some ⟨w1.heap.size, 0, none⟩) 1 1) 1 l1 := (Ip.some1 hpt1).row hm1.size (by simp)
  have hbb := below_new w1 (.cells #[.iface c1 u1] 46)
  have hd1' := hd1.below hbb
  have hv1' := HK.out.use hv1 (w' := w1.alloc (.cells #[.iface c1 u1] 46)) (fun q hq _ => hbb.block q (by have := hm1.size; omega))
  have hm1' := hm1.fresh hbb hm1.size
  have HS := hide (show ∃ (i : Nat) (f' : Bool) (t : Pr.Dk) (l : List Tr.Nd), Ip.Row w0.heap.size (w1.alloc (.cells #[.iface c1 u1] 46)) (.slice (some ⟨w1.heap.size, 0, none⟩) 1 1) (i + 1) l ∧ t.bad = false ∧ t.out = s.out ++ l ∧ s.p ≤ t.p ∧ i ≤ t.p ∧ IP b tp tc ts sz t.p (w1.alloc (.cells #[.iface c1 u1] 46)) ∧ Ip.Mw b nb w0 (w1.alloc (.cells #[.iface c1 u1] 46)) ∧ Inv f' (w1.alloc (.cells #[.iface c1 u1] 46)) ∧ (Pr.is ts sz t [44] = true → (∀ u n, Fin (i + 1) f' (Pr.adv t) u n → Fin 0 f s u n) ∧ (∀ q, Bad (i + 1) f' (Pr.adv t) q → Bad 0 f s q)) ∧ (Pr.is ts sz t [44] = false → Fin 0 f s t (i + 1)) from ⟨0, f1, t1, l1, hr1, hb1, ho1, hp1, Nat.zero_le _, hd1', hm1', hv1', hgo1, hend1⟩)
  clear hr1 hbb hd1 hd1' hv1 hv1' hm1 hm1' hgo1 hend1 hpt1 ho1 hb1 hp1 Q hv0
  go_wp2_with fail
  go_loopw [5] (fun sv wr => ∃ (i : Nat) (f' : Bool) (t : Pr.Dk) (l : List Tr.Nd), Ip.Row w0.heap.size wr sv (i + 1) l ∧ t.bad = false ∧ t.out = s.out ++ l ∧ s.p ≤ t.p ∧ i ≤ t.p ∧ IP b tp tc ts sz t.p wr ∧ Ip.Mw b nb w0 wr ∧ Inv f' wr ∧ (Pr.is ts sz t [44] = true → (∀ u n, Fin (i + 1) f' (Pr.adv t) u n → Fin 0 f s u n) ∧ (∀ q, Bad (i + 1) f' (Pr.adv t) q → Bad 0 f s q)) ∧ (Pr.is ts sz t [44] = false → Fin 0 f s t (i + 1))) (fun _ wr => Ip.left b ts wr)
  case atStart => exact HS.out
  case round =>
    obtain ⟨i, f', t, l, hr, hb, ho, hp, hip, hd, hm, hv, hgo, hend⟩ := hrel
    obtain ⟨sp, sc, rfl⟩ := hr.form
    have HR := hide hr
    have HO := hide ho
    have HD := hide hd
    have HM := hide hm
    have HV := hide hv
    have HGO := hide hgo
    have HEN := hide hend
    have HB := hide hb
    have hzz := hm.size
    have HL := hide hd.left
    clear HS hr ho hd hm hv hgo hend hb
    cases hc : Pr.is ts sz t [44]
    · have Q := hide (skipN (s := t) HD.out HB.out [44] #[44] rfl hc)
      go_wp2_with fail
      refine Q.out.mono ?_
      rintro e w2 ⟨rfl, hd2, hb2⟩
      have HD2 := hide hd2
      have HB2 := hide hb2
      clear hd2 hb2 Q
      go_wp2
      go_ret
      exact .inl ⟨t, i + 1, _, l, rfl, HEN.out hc, HB.out, hc, HO.out, hp, HD2.out, HM.out.fresh HB2.out HM.out.size, HR.out.below HB2.out, Nat.le_add_left _ _, by have := HD2.out.le; omega⟩
    · have Q := hide (skipY (s := t) HD.out [44] #[44] rfl hc)
      go_wp2_with fail
      refine Q.out.mono ?_
      rintro e w2 ⟨rfl, hd2, hm2⟩
      have hv2 := HK.out.use HV.out (w' := w2) (fun q hq hqb => hm2.block q (by omega) hqb)
      have hs2 := hm2.size
      have HD2 := hide hd2
      have HM2 := hide (HM.out.t (hm2.wide nb))
      have HR2 := hide (HR.out.mw (hm2.wide nb) hlt (by omega) (Nat.le_refl _))
      have Q2 := hide (HI.out (i + 1) f' (Pr.adv t) (by simp) (by rw [Pr.adv_p]; omega) HD2.out.le (show (Pr.adv t).bad = false from HB.out) w2 (by omega) HD2.out hv2)
      have HGO2 := hide (HGO.out hc)
      clear hd2 hm2 hv2 Q HR HM HD HV HGO HEN
      go_wp2_with fail
      refine Q2.out.mono ?_
      rintro e w3 (⟨t3, f3, v3, l3, rfl, hb3, ho3, hp3, hd3, hm3, hpt3, hv3, hgo3, hend3⟩ | ⟨q, rfl, hq, hm3⟩)
      rotate_left
      · exact ⟨rfl, .inr ⟨_, rfl, HGO2.out.2 _ hq, HM2.out.t hm3⟩⟩
      obtain ⟨c3, u3, rfl⟩ := hpt3.iface
      have hs3 := hm3.size
      have HP3 := hide hpt3
      have HR3 := hide (HR2.out.mw hm3 hlt (by omega) (Nat.le_refl _))
      have HA := hide (show ∀ q, (Value.slice sp (i + 1) sc).ownBlock = some q → q < w2.heap.size from fun q e => (HR2.out.lt e).2)
      have HD3 := hide hd3
      have HM3 := hide (HM2.out.t hm3)
      have HV3 := hide hv3
      have HGO3 := hide hgo3
      have HEN3 := hide hend3
      have HO3 := hide ho3
      have HB3 := hide hb3
      have hp3' : t.p + 1 ≤ t3.p := hp3
      have hle3 := hd3.le
      clear hpt3 hd3 hm3 hv3 hgo3 hend3 ho3 hb3 HR2 HM2 Q2 hp3
      go_wp2_with (at_builtin; refine wp_push rfl _ _ rfl w0.heap.size w2.heap.size (i + 1) (.slice sp (i + 1) sc) (.iface c3 u3) l l3 HR3.out HP3.out (by omega) (by omega) HA.out (by omega) rfl rfl ?_)
      intro v4 w4 hr4 hb4
      obtain ⟨sp4, sc4, rfl⟩ := hr4.form
      have hd4 := HD3.out.fresh hb4 hlt
      have HMS := hide (show Ip.left b ts w4 < Ip.left b ts wr from by rw [hd4.left, HL.out]; omega)
      have HRR := hide hr4
      have HDD := hide hd4
      have HMM := hide (HM3.out.fresh hb4 (Nat.le_refl _))
      have HVV := hide (HK.out.use HV3.out (w' := w4) (fun q hq _ => hb4.block q (by omega)))
      clear hr4 hb4 hd4
      go_wp2
      go_roundw
      case rel => exact ⟨i + 1, f3, t3, l ++ l3, HRR.out, HB3.out, by rw [HO3.out, ← List.append_assoc, Pr.adv_out, HO.out], by omega, by omega, HDD.out, HMM.out, HVV.out, fun hc' => ⟨fun u n h => HGO2.out.1 _ _ ((HGO3.out hc').1 _ _ h), fun q h => HGO2.out.2 _ ((HGO3.out hc').2 _ h)⟩, fun hc' => HGO2.out.1 _ _ (HEN3.out hc')⟩
      case measure => exact HMS.out
end
end Go.Proofs.YtfjoecbkagedbaaGreatDoor
namespace Go.Proofs.YtfjoecbkagedbaaGreatDoor
open Go.RowKit
/-- What comes of none or more, and the sign behind. -/
def Ip.Upto (b : Nat) (tp : Option Addr) (tc : Nat) (ts : List Sc.T) (sz nb : Nat) (Fin : Nat → Bool → Pr.Dk → Pr.Dk → Nat → Prop) (Bad : Nat → Bool → Pr.Dk → Nat → Prop) (E : List UInt8) (f : Bool) (s : Pr.Dk) (w : World) (e : Ending) (w' : World) : Prop :=
  (∃ (t : Pr.Dk) (n : Nat) (sv : Value) (l : List Tr.Nd), e = .returned sv ∧ Fin 0 f s t n ∧ t.bad = false ∧ Pr.is ts sz t E = true ∧ t.out = s.out ++ l ∧ s.p ≤ t.p ∧ IP b tp tc ts sz (Pr.adv t).p w' ∧ Ip.Mw b nb w w' ∧ Ip.Row w.heap.size w' sv n l ∧ n ≤ ts.length + 1) ∨
  (∃ q, e = .panicked (Ip.stuck q) ∧ (Bad 0 f s q ∨ ∃ t n, Fin 0 f s t n ∧ Pr.Bd q (Pr.need ts sz t E)) ∧ Ip.Mw b nb w w')
section
variable {b nb tc sz lo m : Nat} {tp : Option Addr} {ts : List Sc.T}
set_option maxRecDepth 100000 in
set_option maxHeartbeats 4000000 in
theorem upTo_any {Inv : Bool → World → Prop} {Fin : Nat → Bool → Pr.Dk → Pr.Dk → Nat → Prop} {Bad : Nat → Bool → Pr.Dk → Nat → Prop} {E : List UInt8} {a : Array UInt8} (ha : a.toList = E) {K : Nat} {fst cap : Array Value} (hK : Ip.Keeps b lo Inv) (hI : Ip.Items b tp tc ts sz nb lo m Inv Fin Bad (fun d => Pr.is ts sz d E) K (fst ++ cap)) (hnb : nb < lo) (hE : ∀ w, Sem.run Tryz.prog (callFunc K (fst ++ cap)) w = .ok (.enter K (fst ++ cap)) w)
    {f : Bool} {s : Pr.Dk} (hnil : Pr.is ts sz s E = true → Fin 0 f s s 0) (hm0 : m ≤ s.p) (hbad : s.bad = false) {w0 : World} (hlo : lo ≤ w0.heap.size) (hd0 : IP b tp tc ts sz s.p w0) (hv0 : Inv f w0) :
    Calls Tryz.prog 86 #[.pointer (some ⟨b, 0, none⟩), .string ⟨a⟩, .func (.func K) fst cap] w0 (Ip.Upto b tp tc ts sz nb Fin Bad E f s w0) := by
  have hlt := hd0.lt
  have HD := hide hd0
  have HK := hide hK
  have HI := hide hI
  have HV := hide hv0
  have HE := hide hE
  clear hd0 hI hK hv0 hE
  cases hg : Pr.is ts sz s E
  · have Q := hide (skipN (s := s) HD.out hbad E a ha hg)
    go_enter Tryz.func86, Tryz.ntmps86
    go_wp2_with fail
    refine Q.out.mono ?_
    rintro e w1 ⟨rfl, hd1, hb1⟩
    have hv1 := HK.out.use HV.out (w' := w1) (fun q hq _ => hb1.block q (by omega))
    have hz1 := hb1.size
    have Q2 := hide (some_any HK.out HI.out hnb HE.out (f := f) hg hm0 hbad (w0 := w1) (by omega) hd1 hv1)
    have HB1 := hide hb1
    clear hd1 hb1 hv1 Q
    go_wp2_with fail
    refine Q2.out.mono ?_
    rintro e w2 (⟨t, n, sv, l, rfl, hf, hb, hc, ho, hp, hd, hm, hr, h1, hn⟩ | ⟨q, rfl, hq, hm⟩)
    rotate_left
    · exact ⟨rfl, .inr ⟨_, rfl, .inl hq, (Ip.Mv.wide (.below HB1.out) nb).t hm⟩⟩
    have HM := hide (Ip.Mw.t (Ip.Mv.wide (.below HB1.out) nb) hm)
    have HR := hide (hr.low (lo' := w0.heap.size) HB1.out.size)
    have HF := hide hf
    have HO := hide ho
    have HD2 := hide hd
    clear hm hr hf ho hd Q2
    cases he : Pr.is ts sz t E
    · have Q3 := hide (wantN (s := t) HD2.out hb E a ha he)
      have HBD := hide (Pr.Bd.need_of (ts := ts) (sz := sz) hb he)
      go_wp2_with fail
      refine Q3.out.mono ?_
      rintro e w3 ⟨rfl, hm⟩
      exact ⟨rfl, .inr ⟨_, rfl, .inr ⟨t, n, HF.out, HBD.out⟩, HM.out.t (hm.wide nb)⟩⟩
    · have Q3 := hide (wantY (s := t) HD2.out E a ha he)
      go_wp2_with fail
      refine Q3.out.mono ?_
      rintro e w3 ⟨rfl, hd3, hm3⟩
      have HD3 := hide hd3
      have HR3 := hide (HR.out.mv hm3 hlt (Nat.le_refl _))
      have HM3 := hide (HM.out.t (hm3.wide nb))
      clear hd3 hm3 Q3 HR HM
      go_wp2
      go_ret
      exact .inl ⟨t, n, _, l, rfl, HF.out, hb, he, HO.out, hp, HD3.out, HM3.out, HR3.out, hn⟩
  · have Q := hide (skipY (s := s) HD.out E a ha hg)
    go_enter Tryz.func86, Tryz.ntmps86
    go_wp2_with fail
    refine Q.out.mono ?_
    rintro e w1 ⟨rfl, hd1, hm1⟩
    have HD1 := hide hd1
    have HM1 := hide hm1
    clear hd1 hm1 Q
    go_wp2
    go_ret
    exact .inl ⟨s, 0, _, [], rfl, hnil hg, hbad, hg, by simp, Nat.le_refl _, HD1.out, HM1.out.wide nb, .nil _ _, Nat.zero_le _⟩
end
end Go.Proofs.YtfjoecbkagedbaaGreatDoor
