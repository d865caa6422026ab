/- Walks: FormPlan, on the specification's side. -/
import Derived.Test.YtlganondmnhecaaTe
import Derived.Lib.AppendStr
namespace Go.Proofs.Ytlganondmnhecaa.Pl
open Go.RowKit

def qs (s : ByteArray) : List UInt8 := Tr.quote s.data.toList
def inForm (s : ByteArray) : List UInt8 := [32, 32, 60, 32] ++ qs s ++ [10]
def outForm (s : ByteArray) : List UInt8 := [32, 32, 62, 32] ++ qs s ++ [10]
def headForm (x : Tg) : List UInt8 := qs x.name ++ [58, 32] ++ qs x.tool ++ [32] ++ qs x.arg ++ [10]
def Tg.form (x : Tg) : List UInt8 := headForm x ++ (x.ins.flatMap inForm ++ x.outs.flatMap outForm)
def planForm (l : List Tg) : List UInt8 := l.flatMap Tg.form
theorem qs_len (s : ByteArray) : (qs s).length ≤ 3 * s.size + 2 := by
  have : ∀ l : List UInt8, (l.flatMap Tr.qb).length ≤ 3 * l.length := by
    intro l
    induction l with
    | nil => simp
    | cons b r ih => have := Tr.qb_len b; rw [List.flatMap_cons, List.length_append, List.length_cons]; omega
  have h := this s.data.toList
  have e : s.data.toList.length = s.size := by simp
  unfold qs Tr.quote; simp only [List.length_cons, List.length_append, List.length_nil]; omega
theorem forms_len (f : ByteArray → List UInt8) (hf : ∀ s, (f s).length ≤ 3 * s.size + 7) (l : List ByteArray) : (l.flatMap f).length ≤ 7 * wtS l := by
  unfold wtS
  induction l with
  | nil => simp
  | cons s r ih => have := hf s; rw [List.flatMap_cons, List.length_append, List.map_cons, List.sum_cons, List.length_cons]; omega
theorem in_len (s : ByteArray) : (inForm s).length ≤ 3 * s.size + 7 := by have := qs_len s; simp [inForm]; omega
theorem out_len (s : ByteArray) : (outForm s).length ≤ 3 * s.size + 7 := by have := qs_len s; simp [outForm]; omega
theorem head_len (x : Tg) : (headForm x).length ≤ 3 * (x.name.size + x.tool.size + x.arg.size) + 10 := by have := qs_len x.name; have := qs_len x.tool; have := qs_len x.arg; simp [headForm]; omega
theorem form_len (x : Tg) : x.form.length ≤ 7 * x.wt + 10 := by
  have := head_len x; have := forms_len inForm in_len x.ins; have := forms_len outForm out_len x.outs
  unfold Tg.form Tg.wt; simp only [List.length_append]; omega
theorem plan_len (l : List Tg) : (planForm l).length ≤ 10 * (l.length + wtT l) := by
  unfold planForm wtT
  induction l with
  | nil => simp
  | cons x r ih => have := form_len x; rw [List.flatMap_cons, List.length_append, List.map_cons, List.sum_cons, List.length_cons]; omega
theorem strCells_bytes (l : List UInt8) : Lib.strCells ⟨l.toArray⟩ = Tr.bytesOf l := by simp [Lib.strCells, Tr.bytesOf]

/-- A call by its contract, as one step of a region that draws. -/
theorem step_call1 {P : Program} {ops : Array Oper} {o : Oper} {a : Act} {w : World} {K : Act → World → Prop} {Q : Exit → Act → World → Prop} {E : Prop}
    (hg : o.guard = none) (f : FuncId) (x : Operand) (t : TypeId) (hop : o.op = Op.call { callee := Callee.value (Operand.func f), args := #[x], argTypes := #[t] })
    (v r : Value) (hx : a.eval x = v) (fn : Func) (hfn : P.funcs[f]? = some fn) (hne : (fn.name == "runtime.NumGoroutine") = false) (hbd : fn.body.isNone = false) (R : World → Prop) (hC : Calls P f #[v] w fun e w' => e = .returned r ∧ R w') (hK : ∀ w', R w' → K (a.put o.dst r) w') :
    if Region.wanted o (yielded ops a.tmps) = true then Oper.wp P o a w K Q else E := by
  have hw : Region.wanted o (yielded ops a.tmps) = true := by simp [Region.wanted, hg]
  rw [if_pos hw]
  have h1 : (callFunc f #[v]).run P w = .ok (.enter f #[v]) w := by
    simp only [callFunc, Sem.run_bind, run_program, Result.andThen_ok, hfn, hne, hbd]; rfl
  unfold Oper.wp
  simp only [execOp, hop, resolve, invoke, List.map_toArray, List.map_cons, List.map_nil, hx, Deferred.ofValue, Sem.run_bind]
  rw [show a.eval (Operand.func f) = Value.func (Fn.func f) #[] #[] from rfl]
  simp only [Sem.run_pure, Result.andThen_ok]
  simp [h1]
  refine hC.mono fun e w2 h => ?_
  obtain ⟨rfl, h2⟩ := h
  exact hK _ h2
/-- append of a text's bytes onto a row of the call's own, as one step of a region that draws. -/
theorem step_append_str {P : Program} {ops : Array Oper} {o : Oper} {a : Act} {w : World} {K : Act → World → Prop} {Q : Exit → Act → World → Prop} {E : Prop}
    (hgd : o.guard = none) (s x : Operand) (t u : TypeId) (ho : o.op = .call { callee := .builtin .append, args := #[s, x], argTypes := #[t, u] })
    (base : Nat) (e : TypeId) (i : TypeInfo) (ht : P.underlying t = some (.slice e)) (hu : P.underlying u = some .string) (hi : P.info? e = some i) (hz : i.zero = some (.int .u8 0)) (hsize : i.size = 1) (hby : i.bytes = 1)
    (v : Value) (n : Nat) (xs : List Value) (hs : a.eval s = v) (hown : w.ownsRow base e 1 v n xs) (str : ByteArray) (hx : a.eval x = .string str)
    (h63 : n + str.size ≤ maxLen) (hbytes : n + str.size ≤ 140737488355328) (hbase : base ≤ w.heap.size)
    (hK : ∀ v' w', w'.ownsRow base e 1 v' (n + str.size) (xs ++ Lib.strCells str) → w.grownBy w' v.ownBlock → K (a.put o.dst v') w') :
    if Region.wanted o (yielded ops a.tmps) = true then Oper.wp P o a w K Q else E := by
  have hw : Region.wanted o (yielded ops a.tmps) = true := by simp [Region.wanted, hgd]
  rw [if_pos hw]
  obtain ⟨v', w', hr, h2, h3, h4⟩ := Lib.run_append_own_string (P := P) (w := w) base t u o.type e i ht hu hi hz hsize hby v n xs hown str h63 hbytes hbase
  unfold Oper.wp execOp
  simp only [ho, resolve, invoke, builtin, Sem.run_bind, Sem.run_pure, Result.andThen_ok, List.map_toArray, List.map_cons, List.map_nil, hs, hx, hr]
  exact hK _ _ h2 h3
/-- Behind 'out = append(out, text...)', the text not empty. -/
theorem app_str {w W w1 : World} {g cap : Nat} {t u : List UInt8} {v' : Value} (hu : 0 < u.length) (hown : W.ownsRow w.heap.size 5 1 (.slice (some ⟨g, 0, none⟩) t.length cap) t.length (Tr.bytesOf t)) (hW : Below w.heap.size w W)
    (hown' : w1.ownsRow w.heap.size 5 1 v' (t.length + (⟨u.toArray⟩ : ByteArray).size) (Tr.bytesOf t ++ Lib.strCells ⟨u.toArray⟩)) (hg : W.grownBy w1 (Value.slice (some ⟨g, 0, none⟩) t.length cap).ownBlock) :
    ∃ g' cap', v' = .slice (some ⟨g', 0, none⟩) (t ++ u).length cap' ∧ w1.ownsRow w.heap.size 5 1 (.slice (some ⟨g', 0, none⟩) (t ++ u).length cap') (t ++ u).length (Tr.bytesOf (t ++ u)) ∧ Below w.heap.size w w1 := by
  have e : (⟨u.toArray⟩ : ByteArray).size = u.length := by simp [ByteArray.size]
  rw [e, strCells_bytes] at hown'
  obtain ⟨g', cap', rfl⟩ := rowb_some hown' (by omega)
  rw [← List.length_append, ← Tr.bytesOf_app] at hown'
  exact ⟨g', cap', by rw [List.length_append], hown', hW.grown hg hW.size (fun k e => (hown.lt k e).1)⟩
theorem row_below {w w1 : World} {base : Nat} {e : TypeId} {size : Nat} {v : Value} {n : Nat} {xs : List Value} (h : w.ownsRow base e size v n xs) (hb : Below w.heap.size w w1) : w1.ownsRow base e size v n xs := by
  have hg : w.grownBy w1 none := ⟨hb.os, hb.tape, hb.output, hb.size, fun k hk _ => hb.block k hk⟩
  refine h.kept hg ?_
  cases hv : v.ownBlock with
  | none => exact .inl rfl
  | some k => exact .inr (by simp)
/-- What an append onto a row leaves: where the new row lies. -/
theorem grown_at {W W' : World} {row : Option Nat} (h : W.grownBy W' row) (b : Nat) (hb : b < W.heap.size) (hn : some b ≠ row) : W'.heap[b]? = W.heap[b]? := h.block b hb hn
theorem row_ne {W : World} {base g n cap b : Nat} {xs : List Value} {cs : Array Value} (h : W.ownsRow base 5 1 (.slice (some ⟨g, 0, none⟩) n cap) n xs) (hb : W.heap[b]? = some (.cells cs 34)) : g ≠ b := by
  rcases h.2 with ⟨e, _⟩ | ⟨g', cap', cur, e, _, hg, _⟩
  · cases e
  · cases e
    rintro rfl
    rw [hg] at hb
    cases hb
theorem box_cells {W : World} {b : Nat} {v0 v1 v2 v3 v4 : Value} (h : W.heap[b]? = some (.cells #[v0, v1, v2, v3, v4] 34)) : W.cell? ⟨b, 0, none⟩ = some v0 ∧ W.cell? ⟨b, 1, none⟩ = some v1 ∧ W.cell? ⟨b, 2, none⟩ = some v2 ∧ W.cell? ⟨b, 3, none⟩ = some v3 ∧ W.cell? ⟨b, 4, none⟩ = some v4 := by
  simp [World.cell?, h]
theorem mk_app (a b : List UInt8) : (⟨a.toArray⟩ : ByteArray) ++ ⟨b.toArray⟩ = ⟨(a ++ b).toArray⟩ := by
  rw [← Lib.mk_data (⟨a.toArray⟩ ++ ⟨b.toArray⟩)]
  congr 1

/-- The box of a target: the variable t. -/
def BoxT (W : World) (b : Nat) (x : Tg) (gi go : Nat) : Prop := b < W.heap.size ∧ W.heap[b]? = some (.cells #[.string x.name, .string x.tool, .string x.arg, .slice (some ⟨gi, 0, none⟩) x.ins.length x.ins.length, .slice (some ⟨go, 0, none⟩) x.outs.length x.outs.length] 34)
theorem BoxT.below {W W' : World} {b : Nat} {x : Tg} {gi go : Nat} (h : BoxT W b x gi go) (hb : Below W.heap.size W W') : BoxT W' b x gi go := ⟨Nat.lt_of_lt_of_le h.1 hb.size, (hb.block b h.1).trans h.2⟩
theorem BoxT.drew {W : World} {b : Nat} {x : Tg} {gi go : Nat} (h : BoxT W b x gi go) : BoxT W.drew b x gi go := h
theorem BoxT.grown {W W' : World} {b : Nat} {x : Tg} {gi go base g n cap : Nat} {xs : List Value} (h : BoxT W b x gi go) (ho : W.ownsRow base 5 1 (.slice (some ⟨g, 0, none⟩) n cap) n xs) (hg : W.grownBy W' (Value.slice (some ⟨g, 0, none⟩) n cap).ownBlock) : BoxT W' b x gi go :=
  ⟨Nat.lt_of_lt_of_le h.1 hg.size, (grown_at hg b h.1 (by have := row_ne ho h.2; simp [Value.ownBlock]; omega)).trans h.2⟩
theorem BoxT.start (W : World) (x : Tg) (gi go : Nat) : BoxT (W.alloc (.cells #[.string x.name, .string x.tool, .string x.arg, .slice (some ⟨gi, 0, none⟩) x.ins.length x.ins.length, .slice (some ⟨go, 0, none⟩) x.outs.length x.outs.length] 34)) W.heap.size x gi go := ⟨by simp, (Go.MapKept.heap_alloc W _).1⟩
theorem flat_drop (f : ByteArray → List UInt8) (l : List ByteArray) (k : Nat) (h : k < l.length) : (l.drop k).flatMap f = f l[k] ++ (l.drop (k + 1)).flatMap f := by rw [List.drop_eq_getElem_cons h, List.flatMap_cons]
theorem plan_drop (l : List Tg) (k : Nat) (h : k < l.length) : planForm (l.drop k) = (l[k]).form ++ planForm (l.drop (k + 1)) := by unfold planForm; rw [List.drop_eq_getElem_cons h, List.flatMap_cons]
theorem wtS_len (l : List ByteArray) : l.length ≤ wtS l := by unfold wtS; omega
theorem wtS_get (l : List ByteArray) (k : Nat) (h : k < l.length) : (l[k]).size ≤ wtS l := by
  unfold wtS
  have e : l = l.take k ++ [l[k]] ++ l.drop (k + 1) := by rw [← List.take_succ_eq_append_getElem h, List.take_append_drop]
  have := congrArg (fun z => (z.map ByteArray.size).sum) e
  simp only [List.map_append, List.sum_append, List.map_cons, List.map_nil, List.sum_cons, List.sum_nil] at this
  omega

set_option maxRecDepth 100000 in
set_option maxHeartbeats 4000000 in
theorem specPlan_any (l : List Tg) (g c : Nat) (w : World) (hl : l.length + wtT l ≤ 1048576) (ht : TgsC w g l) :
    Calls Try.prog 5 #[.slice (some ⟨g, 0, none⟩) l.length c] w fun e w' => e = .returned (.string ⟨(planForm l).toArray⟩) ∧ Below w.heap.size w w' := by
  obtain ⟨i0, hi, hz0, hz1, hz2⟩ := info_parts Try.infoByte
  have HT := hide ht
  have HL := hide (plan_len l)
  clear ht
  go_enter Try.func5, Try.ntmps5
  go_wp2
  go_loopw [3, 4] (fun v i wr => ∃ (j : Nat) (t : List UInt8) (g cap : Nat), j ≤ l.length ∧ i = .int .i64 j ∧ v = .slice (some ⟨g, 0, none⟩) t.length cap ∧ wr.ownsRow w.heap.size 5 1 (.slice (some ⟨g, 0, none⟩) t.length cap) t.length (Tr.bytesOf t) ∧ Below w.heap.size w wr ∧ t ++ planForm (l.drop j) = planForm l) (fun _ i _ => l.length - (intOf i).toNat)
  case atStart =>
    exact ⟨0, [], w.heap.size, 0, Nat.zero_le _, rfl, rfl, World.ownsRow_lit w #[] 0 (Nat.le_refl _) (by decide) rfl, (Below.refl _ _).alloc (Nat.le_refl _) _, by simp⟩
  case round =>
    obtain ⟨j, t, gt, cap, hj, rfl, rfl, hown, hB, he⟩ := hrel
    have HE := hide he
    clear he
    have hsz := hB.size
    by_cases hlt : j < l.length
    · obtain ⟨gi, go, c0, c1, c2, c3, c4, si, so⟩ := HT.out.2 j hlt
      replace c0 := (hB.cell (p := ⟨g, j * 5, none⟩) HT.out.1).trans c0
      replace c1 := (hB.cell (p := ⟨g, j * 5 + 1, none⟩) HT.out.1).trans c1
      replace c2 := (hB.cell (p := ⟨g, j * 5 + 2, none⟩) HT.out.1).trans c2
      replace c3 := (hB.cell (p := ⟨g, j * 5 + 3, none⟩) HT.out.1).trans c3
      replace c4 := (hB.cell (p := ⟨g, j * 5 + 4, none⟩) HT.out.1).trans c4
      have HPD := hide (plan_drop l j hlt)
      have hwx : (l[j]).wt ≤ 1048576 := by
        have h1 := wtT_drop l j hlt
        have h2 : wtT l = wtT (l.take j) + wtT (l.drop j) := by unfold wtT; rw [← List.sum_append, ← List.map_append, List.take_append_drop]
        omega
      generalize l[j] = x at *
      have hwt : x.wt = x.name.size + x.tool.size + x.arg.size + wtS x.ins + wtS x.outs := rfl
      have hil : x.ins.length ≤ 1048576 := by have := wtS_len x.ins; omega
      have hol : x.outs.length ≤ 1048576 := by have := wtS_len x.outs; omega
      have HQ1 := hide (show ∀ w', Calls Try.prog 10 #[.string x.name] w' fun e w'' => e = .returned (.string ⟨(qs x.name).toArray⟩) ∧ Below w'.heap.size w' w'' from fun w' => quote_any x.name w' (by omega))
      have HQ2 := hide (show ∀ w', Calls Try.prog 10 #[.string x.tool] w' fun e w'' => e = .returned (.string ⟨(qs x.tool).toArray⟩) ∧ Below w'.heap.size w' w'' from fun w' => quote_any x.tool w' (by omega))
      have HQ3 := hide (show ∀ w', Calls Try.prog 10 #[.string x.arg] w' fun e w'' => e = .returned (.string ⟨(qs x.arg).toArray⟩) ∧ Below w'.heap.size w' w'' from fun w' => quote_any x.arg w' (by omega))
      have l1 := qs_len x.name
      have l2 := qs_len x.tool
      have l3 := qs_len x.arg
      have HH : Hid (headForm x = qs x.name ++ [58, 32] ++ qs x.tool ++ [32] ++ qs x.arg ++ [10]) := hide rfl
      have HF : Hid (x.form = headForm x ++ (x.ins.flatMap inForm ++ x.outs.flatMap outForm)) := hide rfl
      have bx0 := BoxT.start wr x gi go
      have HSI := hide si
      have HSO := hide so
      have HOW := hide ((hown.alloc (.cells #[.string x.name, .string x.tool, .string x.arg, .slice (some ⟨gi, 0, none⟩) x.ins.length x.ins.length, .slice (some ⟨go, 0, none⟩) x.outs.length x.outs.length] 34)))
      have HB0 := hide (hB.alloc hB.size (.cells #[.string x.name, .string x.tool, .string x.arg, .slice (some ⟨gi, 0, none⟩) x.ins.length x.ins.length, .slice (some ⟨go, 0, none⟩) x.outs.length x.outs.length] 34))
      have hmz : (wr.alloc (.cells #[.string x.name, .string x.tool, .string x.arg, .slice (some ⟨gi, 0, none⟩) x.ins.length x.ins.length, .slice (some ⟨go, 0, none⟩) x.outs.length x.outs.length] 34)).heap.size = wr.heap.size + 1 := World.size_alloc _ _
      obtain ⟨m1, m2, m3, m4, m5⟩ := box_cells bx0.2
      have HBX0 := hide bx0
      clear si so hown bx0 m4 m5
      generalize qs x.name = qa at *
      generalize qs x.tool = qt at *
      generalize qs x.arg = qr at *
      obtain ⟨p1, hp1⟩ : ∃ p, p = qa ++ [58, 32] := ⟨_, rfl⟩
      obtain ⟨p2, hp2⟩ : ∃ p, p = p1 ++ qt := ⟨_, rfl⟩
      obtain ⟨p3, hp3⟩ : ∃ p, p = p2 ++ [32] := ⟨_, rfl⟩
      obtain ⟨p4, hp4⟩ : ∃ p, p = p3 ++ qr := ⟨_, rfl⟩
      obtain ⟨p5, hp5⟩ : ∃ p, p = p4 ++ [10] := ⟨_, rfl⟩
      have hc1 : (⟨qa.toArray⟩ : ByteArray) ++ ⟨#[58, 32]⟩ = ⟨p1.toArray⟩ := by rw [hp1]; exact mk_app qa [58, 32]
      have hc2 : (⟨p1.toArray⟩ : ByteArray) ++ ⟨qt.toArray⟩ = ⟨p2.toArray⟩ := by rw [hp2]; exact mk_app _ _
      have hc3 : (⟨p2.toArray⟩ : ByteArray) ++ ⟨#[32]⟩ = ⟨p3.toArray⟩ := by rw [hp3]; exact mk_app _ [32]
      have hc4 : (⟨p3.toArray⟩ : ByteArray) ++ ⟨qr.toArray⟩ = ⟨p4.toArray⟩ := by rw [hp4]; exact mk_app _ _
      have hc5 : (⟨p4.toArray⟩ : ByteArray) ++ ⟨#[10]⟩ = ⟨p5.toArray⟩ := by rw [hp5]; exact mk_app _ [10]
      have n1 : p1.length = qa.length + 2 := by rw [hp1]; simp
      have n2 : p2.length = p1.length + qt.length := by rw [hp2]; simp
      have n3 : p3.length = p2.length + 1 := by rw [hp3]; simp
      have n4 : p4.length = p3.length + qr.length := by rw [hp4]; simp
      have n5 : p5.length = p4.length + 1 := by rw [hp5]; simp
      have k1 : ¬ 9223372036854775807 < qa.length + 2 := by omega
      have k2 : ¬ 9223372036854775807 < p1.length + qt.length := by omega
      have k3 : ¬ 9223372036854775807 < p2.length + 1 := by omega
      have k4 : ¬ 9223372036854775807 < p3.length + qr.length := by omega
      have k5 : ¬ 9223372036854775807 < p4.length + 1 := by omega
      have HP : Hid (p5 = headForm x) := hide (by rw [HH.out, hp5, hp4, hp3, hp2, hp1])
      have hpl : p5.length ≤ 4000000 := by omega
      have hpl0 : 0 < p5.length := by omega
      have HPL : Hid (t.length ≤ 10485760) := hide (by have h1 := congrArg List.length HE.out; have := HL.out; rw [List.length_append] at h1; omega)
      have htl := HPL.out
      clear hp1 hp2 hp3 hp4 hp5 n1 n2 n3 n4 n5 l1 l2 l3
      go_wp2_with fail
      go_region_held3 (fun w' => w'.cell? ⟨wr.heap.size, 0, none⟩ = some (.string x.name) ∧ w'.cell? ⟨wr.heap.size, 1, none⟩ = some (.string x.tool) ∧ w'.cell? ⟨wr.heap.size, 2, none⟩ = some (.string x.arg)) (go_keep) (first
        | (refine step_call1 rfl 10 (.tmp 21) 9 rfl (.string x.name) (.string ⟨qa.toArray⟩) (by simp [Act.eval]) Try.f10 Try.func10 (by kernel_rfl) (by kernel_rfl) _ (HQ1.out _) ?_; intro w1 hb1; have X1 := HBX0.out.drew.below hb1; obtain ⟨y0, y1, y2, -, -⟩ := box_cells X1.2)
        | (refine step_call1 rfl 10 (.tmp 25) 9 rfl (.string x.tool) (.string ⟨qt.toArray⟩) (by simp [Act.eval]) Try.f10 Try.func10 (by kernel_rfl) (by kernel_rfl) _ (HQ2.out _) ?_; intro w2 hb2; have X2 := X1.below hb2; obtain ⟨x0, x1, x2, -, -⟩ := box_cells X2.2)
        | (refine step_call1 rfl 10 (.tmp 30) 9 rfl (.string x.arg) (.string ⟨qr.toArray⟩) (by simp [Act.eval]) Try.f10 Try.func10 (by kernel_rfl) (by kernel_rfl) _ (HQ3.out _) ?_; intro w3 hb3; have X3 := X2.below hb3; obtain ⟨v0, v1, v2, -, -⟩ := box_cells X3.2; have O3 := row_below (row_below (row_below HOW.out.drew hb1) hb2) hb3; have B1 := HB0.out.drew.trans (hb1.mono HB0.out.drew.size); have B2 := B1.trans (hb2.mono B1.size); have B3 := B2.trans (hb3.mono B2.size))
        | (refine step_append_str rfl (.tmp 19) (.tmp 33) 33 9 rfl w.heap.size 5 i0 Try.underlying33 Try.underlying9 hi hz0 hz1 hz2 (.slice (some ⟨gt, 0, none⟩) t.length cap) t.length (Tr.bytesOf t) (by simp [Act.eval]) O3 ⟨p5.toArray⟩ (by simp [Act.eval]) (by unfold maxLen; simp [ByteArray.size]; omega) (by simp [ByteArray.size]; omega) B3.size ?_; intro v4 w4 ho4 hg4; have X4 := X3.grown O3 hg4; obtain ⟨s0, s1, s2, -, -⟩ := box_cells X4.2))
      obtain ⟨g5, cap5, rfl, O5, B5⟩ := app_str hpl0 O3 B3 ho4 hg4
      have HO5 := hide O5
      have HB5 := hide B5
      have HX5 := hide X4
      obtain ⟨T, hT⟩ : ∃ T, T = t ++ p5 := ⟨_, rfl⟩
      rw [← hT] at HO5 ⊢
      have HTL : Hid (T ++ (x.ins.flatMap inForm ++ x.outs.flatMap outForm) ++ planForm (l.drop (j + 1)) = planForm l) := hide (by rw [hT, HP.out, ← HE.out, HPD.out, HF.out]; simp [List.append_assoc])
      obtain ⟨s0, s1, s2, s3, s4⟩ := box_cells HX5.out.2
      clear hb1 hb2 hb3 X1 X2 X3 X4 y0 y1 y2 x0 x1 x2 v0 v1 v2 O3 O5 B1 B2 B3 B5 ho4 hg4 hc1 hc2 hc3 hc4 hc5 k1 k2 k3 k4 k5 HQ1 HQ2 HQ3 HOW HB0 HBX0 HP HH HF HPD m1 m2 m3 c0 c1 c2 c3 c4 hT hpl hpl0 HPL HE
      clear hsz hmz hB
      generalize wr.heap.size = b at *
      go_wp2
      go_loopw [3, 6] (fun v i wr' => ∃ (k : Nat) (t' : List UInt8) (g' cap' : Nat), k ≤ x.ins.length ∧ i = .int .i64 k ∧ v = .slice (some ⟨g', 0, none⟩) t'.length cap' ∧ wr'.ownsRow w.heap.size 5 1 (.slice (some ⟨g', 0, none⟩) t'.length cap') t'.length (Tr.bytesOf t') ∧ Below w.heap.size w wr' ∧ BoxT wr' b x gi go ∧ t' ++ (x.ins.drop k).flatMap inForm = T ++ x.ins.flatMap inForm) (fun _ i _ => x.ins.length - (intOf i).toNat)
      case atStart => exact ⟨0, T, g5, cap5, Nat.zero_le _, rfl, rfl, HO5.out, HB5.out, HX5.out, by simp⟩
      case round =>
        obtain ⟨k, t', g', cap', hk, rfl, rfl, ho', hB', hx', he'⟩ := hrel
        obtain ⟨-, -, -, s3, s4⟩ := box_cells hx'.2
        by_cases hkl : k < x.ins.length
        · have e0 : wr.cell? ⟨gi, k, none⟩ = some (.string x.ins[k]) := (hB'.cell (p := ⟨gi, k, none⟩) HSI.out.1).trans (by have h := HSI.out.2 k hkl; rw [Nat.zero_add] at h; exact h)
          have hsx := wtS_get x.ins k hkl
          have HKL := hide hkl
          have HQ := hide (show ∀ w', Calls Try.prog 10 #[.string x.ins[k]] w' fun e w'' => e = .returned (.string ⟨(qs x.ins[k]).toArray⟩) ∧ Below w'.heap.size w' w'' from fun w' => quote_any x.ins[k] w' (by omega))
          have HFD := hide (flat_drop inForm x.ins k hkl)
          have HIF : Hid (inForm x.ins[k] = [32, 32, 60, 32] ++ qs x.ins[k] ++ [10]) := hide rfl
          have ql := qs_len x.ins[k]
          have htl' : t'.length ≤ 10485760 := by have h1 := congrArg List.length he'; have h2 := congrArg List.length HTL.out; have := HL.out; simp only [List.length_append] at h1 h2; omega
          have HE' := hide he'
          clear he'
          generalize x.ins[k] = d at *
          generalize qs d = q at *
          obtain ⟨r1, hr1⟩ : ∃ p, p = [32, 32, 60, 32] ++ q := ⟨_, rfl⟩
          obtain ⟨r2, hr2⟩ : ∃ p, p = r1 ++ [10] := ⟨_, rfl⟩
          have hc1 : (⟨#[32, 32, 60, 32]⟩ : ByteArray) ++ ⟨q.toArray⟩ = ⟨r1.toArray⟩ := by rw [hr1]; exact mk_app [32, 32, 60, 32] q
          have hc2 : (⟨r1.toArray⟩ : ByteArray) ++ ⟨#[10]⟩ = ⟨r2.toArray⟩ := by rw [hr2]; exact mk_app _ [10]
          have n1 : r1.length = 4 + q.length := by rw [hr1]; simp; omega
          have n2 : r2.length = r1.length + 1 := by rw [hr2]; simp
          have k1 : ¬ 9223372036854775807 < 4 + q.length := by omega
          have k2 : ¬ 9223372036854775807 < r1.length + 1 := by omega
          have hr0 : 0 < r2.length := by omega
          have hr9 : r2.length ≤ 4000000 := by omega
          have HR2 : Hid (r2 = inForm d) := hide (by rw [HIF.out, hr2, hr1])
          clear hr1 hr2 n1 n2 ql
          go_wp2_with fail
          refine (HQ.out _).mono ?_
          rintro e w1 ⟨rfl, hb1⟩
          have O1 := row_below ho' hb1
          have B1 := hB'.trans (hb1.mono hB'.size)
          have X1 := hx'.below hb1
          clear hb1
          go_wp2_with (at_builtin; refine Lib.wpList_append_own_string _ rfl _ _ 33 9 rfl w.heap.size 5 i0 Try.underlying33 Try.underlying9 hi hz0 hz1 hz2 _ _ _ rfl O1 ⟨r2.toArray⟩ rfl (by unfold maxLen; simp [ByteArray.size]; omega) (by simp [ByteArray.size]; omega) B1.size ?_)
          intro v4 w4 ho4 hg4 _
          obtain ⟨g6, cap6, rfl, O6, B6⟩ := app_str hr0 O1 B1 ho4 hg4
          have X6 := X1.grown O1 hg4
          clear ho4 hg4 O1 B1 X1
          go_wp2
          go_roundw
          case rel => exact ⟨k + 1, t' ++ r2, g6, cap6, by have := HKL.out; omega, by go_num, rfl, O6, B6, X6, by rw [← HE'.out, HFD.out, HR2.out]; simp [List.append_assoc]⟩
          case measure => have := HKL.out; simp [intOf]; omega
        · obtain rfl : k = x.ins.length := by omega
          have HT2 : Hid (t' = T ++ x.ins.flatMap inForm) := hide (by have h := he'; rw [List.drop_length, List.flatMap_nil, List.append_nil] at h; exact h)
          have HTM : Hid (t' ++ x.outs.flatMap outForm ++ planForm (l.drop (j + 1)) = planForm l) := hide (by rw [HT2.out, ← HTL.out]; simp [List.append_assoc])
          have HO7 := hide ho'
          have HB7 := hide hB'
          have HX7 := hide hx'
          clear he' ho' hB' hx' HO5 HB5 HX5 HT2 HTL
          rename_i T0
          obtain ⟨T2, hT2⟩ : ∃ T2, T2 = t' := ⟨_, rfl⟩
          rw [← hT2] at HTM HO7
          rw [← hT2]
          clear hT2
          go_wp2
          go_loopw [3, 7] (fun v i wr' => ∃ (k : Nat) (t' : List UInt8) (g' cap' : Nat), k ≤ x.outs.length ∧ i = .int .i64 k ∧ v = .slice (some ⟨g', 0, none⟩) t'.length cap' ∧ wr'.ownsRow w.heap.size 5 1 (.slice (some ⟨g', 0, none⟩) t'.length cap') t'.length (Tr.bytesOf t') ∧ Below w.heap.size w wr' ∧ BoxT wr' b x gi go ∧ t' ++ (x.outs.drop k).flatMap outForm = T2 ++ x.outs.flatMap outForm) (fun _ i _ => x.outs.length - (intOf i).toNat)
          case atStart => exact ⟨0, T2, g', cap', Nat.zero_le _, rfl, rfl, HO7.out, HB7.out, HX7.out, by simp⟩
          case round =>
            obtain ⟨k, t', g', cap', hk, rfl, rfl, ho', hB', hx', he'⟩ := hrel
            obtain ⟨-, -, -, s3, s4⟩ := box_cells hx'.2
            by_cases hkl : k < x.outs.length
            · have e0 : wr.cell? ⟨go, k, none⟩ = some (.string x.outs[k]) := (hB'.cell (p := ⟨go, k, none⟩) HSO.out.1).trans (by have h := HSO.out.2 k hkl; rw [Nat.zero_add] at h; exact h)
              have hsx := wtS_get x.outs k hkl
              have HKL := hide hkl
              have HQ := hide (show ∀ w', Calls Try.prog 10 #[.string x.outs[k]] w' fun e w'' => e = .returned (.string ⟨(qs x.outs[k]).toArray⟩) ∧ Below w'.heap.size w' w'' from fun w' => quote_any x.outs[k] w' (by omega))
              have HFD := hide (flat_drop outForm x.outs k hkl)
              have HIF : Hid (outForm x.outs[k] = [32, 32, 62, 32] ++ qs x.outs[k] ++ [10]) := hide rfl
              have ql := qs_len x.outs[k]
              have htl' : t'.length ≤ 10485760 := by have h1 := congrArg List.length he'; have h2 := congrArg List.length HTM.out; have := HL.out; simp only [List.length_append] at h1 h2; omega
              have HE' := hide he'
              clear he'
              generalize x.outs[k] = d at *
              generalize qs d = q at *
              obtain ⟨r1, hr1⟩ : ∃ p, p = [32, 32, 62, 32] ++ q := ⟨_, rfl⟩
              obtain ⟨r2, hr2⟩ : ∃ p, p = r1 ++ [10] := ⟨_, rfl⟩
              have hc1 : (⟨#[32, 32, 62, 32]⟩ : ByteArray) ++ ⟨q.toArray⟩ = ⟨r1.toArray⟩ := by rw [hr1]; exact mk_app [32, 32, 62, 32] q
              have hc2 : (⟨r1.toArray⟩ : ByteArray) ++ ⟨#[10]⟩ = ⟨r2.toArray⟩ := by rw [hr2]; exact mk_app _ [10]
              have n1 : r1.length = 4 + q.length := by rw [hr1]; simp; omega
              have n2 : r2.length = r1.length + 1 := by rw [hr2]; simp
              have k1 : ¬ 9223372036854775807 < 4 + q.length := by omega
              have k2 : ¬ 9223372036854775807 < r1.length + 1 := by omega
              have hr0 : 0 < r2.length := by omega
              have hr9 : r2.length ≤ 4000000 := by omega
              have HR2 : Hid (r2 = outForm d) := hide (by rw [HIF.out, hr2, hr1])
              clear hr1 hr2 n1 n2 ql
              go_wp2_with fail
              refine (HQ.out _).mono ?_
              rintro e w1 ⟨rfl, hb1⟩
              have O1 := row_below ho' hb1
              have B1 := hB'.trans (hb1.mono hB'.size)
              have X1 := hx'.below hb1
              clear hb1
              go_wp2_with (at_builtin; refine Lib.wpList_append_own_string _ rfl _ _ 33 9 rfl w.heap.size 5 i0 Try.underlying33 Try.underlying9 hi hz0 hz1 hz2 _ _ _ rfl O1 ⟨r2.toArray⟩ rfl (by unfold maxLen; simp [ByteArray.size]; omega) (by simp [ByteArray.size]; omega) B1.size ?_)
              intro v4 w4 ho4 hg4 _
              obtain ⟨g6, cap6, rfl, O6, B6⟩ := app_str hr0 O1 B1 ho4 hg4
              have X6 := X1.grown O1 hg4
              clear ho4 hg4 O1 B1 X1
              go_wp2
              go_roundw
              case rel => exact ⟨k + 1, t' ++ r2, g6, cap6, by have := HKL.out; omega, by go_num, rfl, O6, B6, X6, by rw [← HE'.out, HFD.out, HR2.out]; simp [List.append_assoc]⟩
              case measure => have := HKL.out; simp [intOf]; omega
            · obtain rfl : k = x.outs.length := by omega
              have HT3 : Hid (t' = T2 ++ x.outs.flatMap outForm) := hide (by have h := he'; rw [List.drop_length, List.flatMap_nil, List.append_nil] at h; exact h)
              go_wp2
              go_roundw
              case rel => exact ⟨j + 1, t', g', cap', by omega, by go_num, rfl, ho', hB', by rw [HT3.out]; exact HTM.out⟩
              case measure => simp [intOf]; omega
    · have HZ : Hid (t = planForm l) := hide (by have h := HE.out; rw [List.drop_of_length_le (by omega)] at h; simpa [planForm] using h)
      have hcv := conv_row hown
      go_wp2
      go_ret
      exact ⟨ret_str (by rw [HZ.out]), hB⟩
end Go.Proofs.Ytlganondmnhecaa.Pl
