/- What fits, on the program's side: the places of the kids. -/
import Derived.Test.YtmklgiononbmmaaDoorNf
import Derived.Deep.CutRange
namespace Go.Proofs.YtmklgiononbmmaaDoor
open Go.RowKit

theorem step_append_zero {P : Program} {ops : Array Oper} {o : Oper} {a : Act} {w : World} {K : Act → World → Prop} {Q : Exit → Act → World → Prop} {E : Prop}
    (hgd : o.guard = none) (s x : Operand) (t : TypeId) (ho : o.op = .call { callee := .builtin .append, args := #[s, x], argTypes := #[t, t] })
    (e : TypeId) (i : TypeInfo) (ht : P.underlying t = some (.slice e)) (hi : P.info? e = some i) (ax : Option Addr) (cx : Nat)
    (hs : a.eval s = .slice none 0 0) (hx : a.eval x = .slice ax 0 cx) (hK : K (a.put o.dst (.slice none 0 0)) w) :
    if Region.wanted o (yielded ops a.tmps) = true then Oper.wp P o a w K Q else E := by
  have hw : Region.wanted o (yielded ops a.tmps) = true := by simp [Region.wanted, hgd]
  rw [if_pos hw]
  have hr : (Builtin.append_ #[t, t] o.type #[.slice none 0 0, .slice ax 0 cx]).run P w = .ok (.slice none 0 0) w := by
    cases ax <;> simp [Builtin.append_, run_underlying ht, sizeOf, typeInfo, hi, Builtin.lenOf, Builtin.firstCells, loadCells, loadCellsFrom]
  unfold Oper.wp execOp
  simp only [ho, resolve, invoke, builtin, Sem.run_bind, Sem.run_pure, Result.andThen_ok, List.map_toArray, List.map_cons, List.map_nil, hs, hx, hr]
  exact hK
theorem made_rows (w : World) (n base : Nat) (hb : base ≤ w.heap.size) (hn : n ≤ maxLen) : (w.alloc (.cells (madeCells #[.slice none 0 0] n) 36)).ownsRow base 36 1 (.slice (some ⟨w.heap.size, 0, none⟩) n n) n (List.replicate n (.slice none 0 0)) := by
  refine ⟨by simp, .inr ⟨w.heap.size, n, _, rfl, hb, heap_alloc_new' w _, Nat.le_refl _, hn, by rw [size_madeCells, Nat.mul_one], ?_⟩⟩
  rw [List.take_of_length_le (by simp [size_madeCells])]
  apply List.ext_getElem
  · simp [size_madeCells]
  · intro i h1 h2
    simp [madeCells, Nat.mod_one]
theorem make_eqR (n : Nat) (hn : n ≤ 5000) (W : World) : (Instr.makeSlice 48 (.int .i64 (n : Int)) (.int .i64 (n : Int))).run Tryd.prog W = .ok (.slice (some ⟨W.heap.size, 0, none⟩) n n) (W.alloc (.cells (madeCells (Value.cells (.slice none 0 0)) (n * 1)) 36)) := by
  obtain ⟨iI, hI, hIz, hIs, hIb⟩ := info_parts Tryd.infoInts
  have := run_make (P := Tryd.prog) W 48 36 iI (.slice none 0 0) Tryd.underlying48 hI hIz .i64 .i64 (n : Int) (n : Int) (by omega) (Int.le_refl _) (by rw [hIb]; omega) (by omega)
  rw [hIs, Int.toNat_natCast] at this
  exact this
/-- One node's places lie in a row of their own, or there are none. -/
def Pl1 (B : Nat) (v3 : Value) (w : World) (v : Value) (ls : List Nat) : Prop := (v = .slice none 0 0 ∧ ls = []) ∨ ∃ g c, v = .slice (some ⟨g, 0, none⟩) ls.length c ∧ B ≤ g ∧ v3.ownBlock ≠ some g ∧ ls.length ≤ c ∧ IntsAt w g 0 ls
theorem Pl1.same {B : Nat} {v3 v3' : Value} {w w' : World} {v : Value} {ls : List Nat} (h : Pl1 B v3 w v ls) (hb : ∀ g, B ≤ g → g < w.heap.size → v3.ownBlock ≠ some g → w'.heap[g]? = w.heap[g]?) (h3 : ∀ g, g < w.heap.size → v3.ownBlock ≠ some g → v3'.ownBlock ≠ some g) : Pl1 B v3' w' v ls := by
  rcases h with h | ⟨g, c, h1, h2, h4, h5, h6⟩
  · exact .inl h
  · exact .inr ⟨g, c, h1, h2, h3 g h6.1 h4, h5, h6.heap (hb g h2 h6.1 h4)⟩
/-- What holds while the places of the kids are laid. -/
structure Kd (w : World) (n i : Nat) (v3 : Value) (vs : List Value) (ks : List (List Nat)) (op : List Nat) (wr : World) : Prop where
  B : Below w.heap.size w wr
  sz : w.heap.size < wr.heap.size
  kr : wr.ownsRow w.heap.size 36 1 (.slice (some ⟨w.heap.size, 0, none⟩) n n) n (vs ++ List.replicate (n - i) (.slice none 0 0))
  vl : vs.length = i
  kl : ks.length = i
  ol : op.length ≤ i
  or3 : wr.ownsRow (w.heap.size + 1) 3 1 v3 op.length (op.map vint)
  rows : ∀ j (h : j < ks.length), ∃ v, vs[j]? = some v ∧ Pl1 (w.heap.size + 1) v3 wr v ks[j]
theorem Kd.cell {w : World} {n i : Nat} {v3 : Value} {vs : List Value} {ks : List (List Nat)} {op : List Nat} {wr : World} (h : Kd w n i v3 vs ks op wr) (hi : i < n) : wr.cell? ⟨w.heap.size, i, none⟩ = some (.slice none 0 0) ∧ wr.frozen? ⟨w.heap.size, i, none⟩ = false := by
  refine ⟨?_, h.kr.frozenAt i⟩
  rw [h.kr.cellAt i (by omega), List.getElem?_append_right (by rw [h.vl]; exact Nat.le_refl _), h.vl, Nat.sub_self, List.getElem?_replicate, if_pos (by omega)]

theorem row_some {w2 : World} {b : Nat} {e : TypeId} {v2 : Value} {n : Nat} {xs : List Value} (hown : w2.ownsRow b e 1 v2 n xs) (hnil : ¬ v2 = .slice none 0 0) : ∃ g2 c2, v2 = .slice (some ⟨g2, 0, none⟩) n c2 := by
  rcases hown.2 with ⟨h, _⟩ | ⟨g2, c2, _, h, _⟩
  · exact absurd h hnil
  · exact ⟨g2, c2, h⟩
theorem set_snoc (vs : List Value) (n i : Nat) (z v : Value) (hl : vs.length = i) (hi : i < n) : (vs ++ List.replicate (n - i) z).set i v = vs ++ [v] ++ List.replicate (n - (i + 1)) z := by
  obtain ⟨k, rfl⟩ : ∃ k, n = i + 1 + k := ⟨n - (i + 1), by omega⟩
  rw [show i + 1 + k - i = k + 1 from by omega, show i + 1 + k - (i + 1) = k from by omega, List.replicate_succ, List.set_append_right (h := by omega)]
  simp [hl]
/-- Behind the places of one node. -/
structure Km (w : World) (n i m : Nat) (v3 v1 : Value) (vs : List Value) (ks : List (List Nat)) (op : List Nat) (wx : World) : Prop where
  B : Below w.heap.size w wx
  sz : w.heap.size < wx.heap.size
  kr : wx.ownsRow w.heap.size 36 1 (.slice (some ⟨w.heap.size, 0, none⟩) n n) n (vs ++ [v1] ++ List.replicate (n - (i + 1)) (.slice none 0 0))
  or3 : wx.ownsRow (w.heap.size + 1) 3 1 v3 op.length (op.map vint)
  rows : ∀ j (h : j < ks.length), ∃ v, vs[j]? = some v ∧ Pl1 (w.heap.size + 1) v3 wx v ks[j]
  new : Pl1 (w.heap.size + 1) v3 wx v1 (op.drop m)
theorem Kd.mid {w : World} {n i m : Nat} {v3 v1 : Value} {vs : List Value} {ks : List (List Nat)} {op : List Nat} {wr X w1 : World} (h : Kd w n i v3 vs ks op wr) (hi : i < n) (hBX : Below wr.heap.size wr X) (hg : X.grownBy w1 none)
    (h1 : (v1 = .slice none 0 0 ∧ op.drop m = []) ∨ ∃ g c, v1 = .slice (some ⟨g, 0, none⟩) (op.drop m).length c ∧ wr.heap.size ≤ g ∧ (op.drop m).length ≤ c ∧ IntsAt w1 g 0 (op.drop m)) : Km w n i m v3 v1 vs ks op (w1.setCell ⟨w.heap.size, i, none⟩ v1) := by
  have hb1 : ∀ b, b < wr.heap.size → w1.heap[b]? = wr.heap[b]? := fun b hb => (hg.block b (Nat.lt_of_lt_of_le hb hBX.size) (by simp)).trans (hBX.block b hb)
  have hb2 : ∀ b, b ≠ w.heap.size → (w1.setCell ⟨w.heap.size, i, none⟩ v1).heap[b]? = w1.heap[b]? := fun b hb => Below.heap_setCell _ _ _ _ (by simpa using hb)
  have hsz := h.sz
  have hs1 : wr.heap.size ≤ w1.heap.size := Nat.le_trans hBX.size hg.size
  have hB1 : Below w.heap.size w w1 := ((h.B.trans (hBX.mono (by omega)))).grown hg (by have := hBX.size; omega) (fun q e => by cases e)
  have h3 : ∀ g, v3.ownBlock = some g → g < wr.heap.size := fun g e => (h.or3.lt g e).2
  refine ⟨hB1.setCell (Nat.le_refl _) _, by simp; omega, ?_, ?_, fun j hj => ?_, ?_⟩
  · have hr := row_same h.kr (hb1 _ hsz)
    have hs := (hr.stored i v1).1
    rw [set_snoc vs n i _ v1 h.vl hi] at hs
    exact hs
  · exact row_sameV h.or3 fun g hg' hl => (hb2 g (by omega)).trans (hb1 g hl)
  · obtain ⟨v, hv, hp⟩ := h.rows j hj
    exact ⟨v, hv, hp.same (fun g hg' hl _ => (hb2 g (by omega)).trans (hb1 g hl)) (fun _ _ e => e)⟩
  · rcases h1 with ⟨e1, e2⟩ | ⟨g, c, e1, e2, e3, e4⟩
    · exact .inl ⟨e1, e2⟩
    · exact .inr ⟨g, c, e1, by omega, fun e => by have := h3 g e; omega, e3, e4.heap (hb2 g (by omega))⟩
theorem Km.alloc {w : World} {n i m : Nat} {v3 v1 : Value} {vs : List Value} {ks : List (List Nat)} {op : List Nat} {wx : World} (h : Km w n i m v3 v1 vs ks op wx) (o : Obj) : Km w n i m v3 v1 vs ks op (wx.alloc o).drew := by
  have hb : ∀ g, g < wx.heap.size → (wx.alloc o).heap[g]? = wx.heap[g]? := fun g hg => ((Below.refl wx.heap.size wx).alloc (Nat.le_refl _) o).block g hg
  have hsz := h.sz
  refine ⟨(h.B.alloc (by omega) o).drew, ?_, h.kr.alloc o, h.or3.alloc o, fun j hj => ?_, ?_⟩
  · show w.heap.size < (wx.alloc o).heap.size
    simp; omega
  · obtain ⟨v, hv, hp⟩ := h.rows j hj
    exact ⟨v, hv, hp.same (fun g _ hl _ => hb g hl) (fun _ _ e => e)⟩
  · exact h.new.same (fun g _ hl _ => hb g hl) (fun _ _ e => e)
theorem Km.next {w : World} {n i m k : Nat} {a7 : Option Addr} {c7 : Nat} {v1 v3 : Value} {vs : List Value} {ks : List (List Nat)} {op : List Nat} {wx w3 : World} {o : Obj} (h : Km w n i m (.slice a7 op.length c7) v1 vs ks op wx) (hm : op.length = m + k) (hvl : vs.length = i) (hkl : ks.length = i) (hol : op.length ≤ i)
    (hown : w3.ownsRow (w.heap.size + 1) 3 1 v3 (m + 1) ((op.map vint).take m ++ [.int .i64 (i : Int)])) (hg : (wx.alloc o).grownBy w3 (Value.slice a7 m c7).ownBlock) (hat : v3.ownBlock = (Value.slice a7 m c7).ownBlock ∨ v3.ownBlock = some (wx.heap.size + 1)) :
    Kd w n (i + 1) v3 (vs ++ [v1]) (ks ++ [op.drop m]) (op.take m ++ [i]) w3 := by
  have hob : (Value.slice a7 m c7).ownBlock = (Value.slice a7 op.length c7).ownBlock := by cases a7 <;> rfl
  rw [hob] at hg hat
  have h3 : ∀ g, (Value.slice a7 op.length c7).ownBlock = some g → w.heap.size + 1 ≤ g ∧ g < wx.heap.size := fun g e => h.or3.lt g e
  have hb : ∀ b, b < wx.heap.size → (Value.slice a7 op.length c7).ownBlock ≠ some b → w3.heap[b]? = wx.heap[b]? := fun b hb hne => grown_block hg b hb (fun e => hne e.symm)
  have hsz := h.sz
  have hs3 : wx.heap.size < w3.heap.size := by have := hg.size; simp at this; omega
  have hne : ∀ g, g < wx.heap.size → (Value.slice a7 op.length c7).ownBlock ≠ some g → v3.ownBlock ≠ some g := by
    intro g hgl hq e
    rcases hat with e2 | e2
    · rw [e2] at e; exact hq e
    · rw [e2] at e; cases e; omega
  refine ⟨?_, by omega, ?_, by simp [hvl], by simp [hkl], by simp; omega, ?_, fun j hj => ?_⟩
  · exact (h.B.alloc (by omega) o).grown hg (by simp; omega) (fun q e => by have := (h3 q e).1; omega)
  · exact row_same h.kr (hb _ hsz (fun e => by have := (h3 _ e).1; omega))
  · have hl2 : (op.take m ++ [i]).length = m + 1 := by rw [List.length_append, List.length_take, Nat.min_eq_left (by omega)]; rfl
    have hmap : (op.take m ++ [i]).map vint = (op.map vint).take m ++ [.int .i64 i] := by rw [List.map_append, List.map_take]; rfl
    rw [hl2, hmap]; exact hown
  · by_cases e : j < ks.length
    · obtain ⟨v, hv, hp⟩ := h.rows j e
      rw [List.getElem_append_left e, List.getElem?_append_left (by omega)]
      exact ⟨v, hv, hp.same (fun g _ hl hq => hb g hl hq) hne⟩
    · have e2 : j = ks.length := by simp at hj; omega
      subst e2
      refine ⟨v1, ?_, ?_⟩
      · rw [List.getElem?_append_right (by omega), hvl, hkl, Nat.sub_self]; rfl
      · have e3 : (ks ++ [op.drop m])[ks.length] = op.drop m := by simp
        rw [e3]
        exact h.new.same (fun g _ hl hq => hb g hl hq) hne

set_option maxRecDepth 100000 in
set_option maxHeartbeats 1000000 in
theorem places_any (ns : List Tr.Nd) (tg tc : Nat) (w : World) (hn : ns.length ≤ 5000) (hgood : Tr.kidsGood ns = true) (ht : NodesAt w tg ns) :
    Calls Tryd.prog 58 #[.slice (some ⟨tg, 0, none⟩) ns.length tc] w fun e w' => ∃ vs v3 op, e = .returned (.slice (some ⟨w.heap.size, 0, none⟩) ns.length ns.length) ∧ Kd w ns.length ns.length v3 vs (Tr.kids ns) op w' := by
  obtain ⟨iI, hI, hIz, hIs, hIb⟩ := info_parts Tryd.infoInt
  obtain ⟨iR, hR, hRz, hRs, hRb⟩ := info_parts Tryd.infoInts
  have hmk := make_eqR ns.length hn
  have HT := hide ht
  have HGD := hide hgood
  have HM0 := hide (made_rows w ns.length w.heap.size (Nat.le_refl _) (by unfold maxLen; omega))
  clear ht hgood
  go_enter Tryd.func58, Tryd.ntmps58
  go_wp2
  go_loopw [3, 13] (fun v3 t wr => ∃ (i : Nat) (vs : List Value) (ks : List (List Nat)) (op : List Nat), i ≤ ns.length ∧ t = .int .i64 i ∧ Kd w ns.length i v3 vs ks op wr ∧
      Tr.krun ns 0 [] = (ks ++ (Tr.krun (ns.drop i) i op).1, (Tr.krun (ns.drop i) i op).2)) (fun _ t _ => ns.length - (intOf t).toNat)
  case atStart => exact ⟨0, [], [], [], Nat.zero_le _, rfl, ⟨(Below.refl _ _).alloc (Nat.le_refl _) _, by simp, HM0.out, rfl, rfl, Nat.le_refl _, World.ownsRow_nil _ _ _ _, fun j h => absurd h (Nat.not_lt_zero _)⟩, rfl⟩
  case round =>
    obtain ⟨i, vs, ks, op, hin, rfl, hKd, he⟩ := hrel
    have HE := hide he
    have HK := hide hKd
    clear he
    by_cases hlt : i < ns.length
    · obtain ⟨b0, b1, b2, b3, b4⟩ := HT.out.2 i hlt
      have a0 := (hKd.B.cell (p := ⟨tg, i * 5, none⟩) HT.out.1).trans b0
      have a1 := (hKd.B.cell (p := ⟨tg, i * 5 + 1, none⟩) HT.out.1).trans b1
      have a2 := (hKd.B.cell (p := ⟨tg, i * 5 + 2, none⟩) HT.out.1).trans b2
      have a3 := (hKd.B.cell (p := ⟨tg, i * 5 + 3, none⟩) HT.out.1).trans b3
      have a4 := (hKd.B.cell (p := ⟨tg, i * 5 + 4, none⟩) HT.out.1).trans b4
      have hcon : ¬ (ns[i].kids < 0 ∨ (op.length : Int) < ns[i].kids) := by
        intro hbad
        have := (kids_end HE.out (Tr.krun_bad ns i hlt op hbad)).2
        have hg := HGD.out
        unfold Tr.kidsGood at hg
        rw [this] at hg
        cases hg
      have HKG := hide (Tr.krun_good ns i hlt op)
      obtain ⟨hk0, hk1⟩ := hKd.cell hlt
      obtain ⟨a7, c7, hv7⟩ := lens_of hKd.or3
      subst hv7
      have hol := hKd.ol
      generalize hkk : ns[i].kids = kd at *
      obtain ⟨k, rfl⟩ : ∃ k : Nat, kd = k := ⟨kd.toNat, by omega⟩
      obtain ⟨m, hm⟩ : ∃ m, op.length = m + k := ⟨op.length - k, by omega⟩
      clear b0 b1 b2 b3 b4 hcon hkk hKd
      have HM := hide hm
      have hmi : m + k ≤ i := by omega
      have hor := HK.out.or3
      rw [hm] at hor ⊢
      have hsz := HK.out.sz
      have HK1 := hide (HK.out.kl)
      have HK2 := hide (HK.out.vl)
      have hX0 : ∀ o : Obj, Below wr.heap.size wr (wr.alloc o).drew := fun o => ((Below.refl _ _).alloc (Nat.le_refl _) o).drew
      have HX0 := hide hX0
      clear hX0
      go_upto_region 7 with fail
      go_cut [] from 23 to 34 (fun wx => ∃ v1, Km w ns.length i m (.slice a7 op.length c7) v1 vs ks op wx)
      case first =>
        have hA : ∀ o : Obj, (wr.alloc o).cell? ⟨w.heap.size, i, none⟩ = some (.slice none 0 0) ∧ (wr.alloc o).frozen? ⟨w.heap.size, i, none⟩ = false := fun o => ⟨(((Below.refl wr.heap.size wr).alloc (Nat.le_refl _) o).cell (p := ⟨w.heap.size, i, none⟩) hsz).trans hk0, (((Below.refl wr.heap.size wr).alloc (Nat.le_refl _) o).frozen (p := ⟨w.heap.size, i, none⟩) hsz).trans hk1⟩
        obtain ⟨hA0, hA1⟩ := hA (.cells #[.int .i64 ns[i].kind, .int .i64 ns[i].op, .int .i64 ns[i].n, .string ns[i].text, .int .i64 (k : Int)] 61)
        have HA := hide hA
        clear hA
        rcases hor.2 with ⟨hnil, hop0⟩ | ⟨g5, c5, cur, hsome, _⟩
        · obtain ⟨rfl, hz, rfl⟩ : a7 = none ∧ m + k = 0 ∧ c7 = 0 := by simpa using hnil
          obtain rfl : m = 0 := by omega
          obtain rfl : k = 0 := by omega
          have hz0 : op.drop 0 = [] := by
            cases op with
            | nil => rfl
            | cons _ _ => simp at hm
          have HZ0 := hide hz0
          clear hz0 hnil hop0
          go_region_law (refine step_append_zero rfl (.tmp 28) (.tmp 31) 36 rfl 3 iI Tryd.underlying36 hI none 0 (by first | (simp [Act.eval]; done) | simp [Act.eval, Act.put]) (by first | (simp [Act.eval]; done) | simp [Act.eval, Act.put]) ?_)
          all_goals
            go_wp2_with fail
            go_meet
            case rel => exact ⟨_, (Kd.mid (w1 := wr) HK.out hlt (Below.refl _ _) ⟨rfl, rfl, rfl, Nat.le_refl _, fun _ _ _ => rfl⟩ (.inl ⟨rfl, HZ0.out⟩)).alloc _⟩
        · obtain ⟨rfl, rfl⟩ : a7 = some ⟨g5, 0, none⟩ ∧ c7 = c5 := by simpa using hsome
          have hcap := (row_room hor).1
          have hg5 := (hor.lt g5 rfl)
          clear hsome
          by_cases hkz : k = 0
          · subst hkz
            have hz0 : op.drop m = [] := List.drop_eq_nil_of_le (by omega)
            have HZ0 := hide hz0
            clear hz0
            by_cases hcm : c7 = m
            · subst hcm
              go_region_law (refine step_append_zero rfl (.tmp 28) (.tmp 31) 36 rfl 3 iI Tryd.underlying36 hI (some ⟨g5, 0, none⟩) 0 (by first | (simp [Act.eval]; done) | simp [Act.eval, Act.put]) (by first | (simp [Act.eval]; done) | simp [Act.eval, Act.put]) ?_)
              all_goals
                go_wp2_with fail
                go_meet
                case rel => exact ⟨_, (Kd.mid (w1 := wr) HK.out hlt (Below.refl _ _) ⟨rfl, rfl, rfl, Nat.le_refl _, fun _ _ _ => rfl⟩ (.inl ⟨rfl, HZ0.out⟩)).alloc _⟩
            · go_region_law (refine step_append_zero rfl (.tmp 28) (.tmp 31) 36 rfl 3 iI Tryd.underlying36 hI (some ⟨g5, m, none⟩) (c7 - m) (by first | (simp [Act.eval]; done) | simp [Act.eval, Act.put]) (by first | (simp [Act.eval]; done) | simp [Act.eval, Act.put]) ?_)
              all_goals
                go_wp2_with fail
                go_meet
                case rel => exact ⟨_, (Kd.mid (w1 := wr) HK.out hlt (Below.refl _ _) ⟨rfl, rfl, rfl, Nat.le_refl _, fun _ _ _ => rfl⟩ (.inl ⟨rfl, HZ0.out⟩)).alloc _⟩
          · have hcm : ¬ c7 = m := by omega
            have hmk' : (m : Int) ≤ (m : Int) + (k : Int) := by omega
            have HNW := hide (fun o => news_drop (o := m) HM.out ((HK.out.or3.alloc o)) (fun _ => rfl))
            have HLM : Hid ((op.drop m).length = k) := hide (by simp; omega)
            go_region_law (refine step_append_own rfl (.tmp 28) (.tmp 31) 36 rfl wr.heap.size 3 iI (.int .i64 0) 1 8 Tryd.underlying36 hI hIz hIs hIb rfl (by decide) (.slice none 0 0) 0 [] (by first | (simp [Act.eval]; done) | simp [Act.eval, Act.put]) (World.ownsRow_nil _ _ _ _) ⟨g5, m, none⟩ k (c7 - m) ((op.drop m).map vint) (by first | (simp [Act.eval]; done) | simp [Act.eval, Act.put]) (by rw [List.length_map, HLM.out, Nat.mul_one]) (HNW.out _) (vint_one _) (by unfold maxLen; omega) (by omega) ((HX0.out _).size) ?_; intro v1 w1 hown1 hgrow1 hnil1 hat1; rw [Nat.zero_add, List.nil_append] at hown1; have hc1 : w1.cell? ⟨w.heap.size, i, none⟩ = some (.slice none 0 0) := (World.cell?_of_block (hgrow1.block w.heap.size (Nat.lt_of_lt_of_le hsz (HX0.out _).size) (by simp [Value.ownBlock]))).trans hA0; have hf1 : w1.frozen? ⟨w.heap.size, i, none⟩ = false := (World.frozen?_of_block (hgrow1.block w.heap.size (Nat.lt_of_lt_of_le hsz (HX0.out _).size) (by simp [Value.ownBlock]))).trans hA1; obtain ⟨g1, c1, rfl⟩ := row_some hown1 (fun e => hkz (hnil1.1 e).2))
            all_goals
              go_wp2_with fail
              go_meet
              case rel =>
                refine ⟨_, Kd.mid HK.out hlt (HX0.out _) hgrow1 (.inr ⟨g1, c1, by rw [HLM.out], (hown1.lt g1 rfl).1, by rw [HLM.out]; exact (row_room hown1).1, ?_⟩)⟩
                have q := hown1
                rw [← HLM.out] at q
                exact ints_of_row q
      case rest =>
        obtain ⟨v1, hkm⟩ := hcut
        have HKM := hide hkm
        have hszc := hkm.sz
        have horc := hkm.or3
        rw [hm] at horc
        clear hkm
        rcases hor.2 with ⟨hnil, hop0⟩ | ⟨g5, c5, cur, hsome, _⟩
        · obtain ⟨rfl, hz, rfl⟩ : a7 = none ∧ m + k = 0 ∧ c7 = 0 := by simpa using hnil
          obtain rfl : m = 0 := by omega
          obtain rfl : k = 0 := by omega
          have hop : op = [] := List.eq_nil_of_length_eq_zero (by have := HM.out; omega)
          subst hop
          clear hnil hop0 hor horc
          go_wp2_with (at_builtin; refine wpList_append_own_at _ rfl _ _ 36 rfl (w.heap.size + 1) 3 iI (.int .i64 0) 1 8 Tryd.underlying36 hI hIz hIs hIb rfl (by decide) (.slice none 0 0) 0 [] rfl (World.ownsRow_nil _ _ _ _) ⟨wc.heap.size, 0, none⟩ 1 1 [.int .i64 i] rfl rfl (cell_one _ _ _) (by simp [Value.oneCell']) (by unfold maxLen; omega) (by omega) (by simp; omega) ?_)
          intro v3 w3 hown3 hgrow3 hnil3 hat3
          have HN := hide (Km.next HKM.out HM.out HK2.out HK1.out (Nat.zero_le _) hown3 hgrow3 (by simpa using hat3))
          clear hown3 hgrow3 hnil3 hat3
          go_wp2
          go_roundw
          case rel => exact ⟨i + 1, _, _, _, by omega, by go_num, HN.out, by rw [HE.out, HKG.out 0 0 rfl rfl]; simp⟩
          case measure => simp [intOf]; omega
        · obtain ⟨rfl, rfl⟩ : a7 = some ⟨g5, 0, none⟩ ∧ c7 = c5 := by simpa using hsome
          have hcap := (row_room hor).1
          have HTK := hide (row_take horc m (by omega))
          have HL := hide hol
          have hmc : (m : Int) ≤ (c7 : Int) := by omega
          clear hsome hor horc
          go_wp2_with (at_builtin; refine wpList_append_own_at _ rfl _ _ 36 rfl (w.heap.size + 1) 3 iI (.int .i64 0) 1 8 Tryd.underlying36 hI hIz hIs hIb rfl (by decide) (.slice (some ⟨g5, 0, none⟩) m c7) m ((op.map vint).take m) rfl (HTK.out.alloc _) ⟨wc.heap.size, 0, none⟩ 1 1 [.int .i64 i] rfl rfl (cell_one _ _ _) (by simp [Value.oneCell']) (by unfold maxLen; omega) (by omega) (by simp; omega) ?_)
          intro v3 w3 hown3 hgrow3 hnil3 hat3
          have HN := hide (Km.next HKM.out HM.out HK2.out HK1.out HL.out hown3 hgrow3 (by simpa using hat3))
          clear hown3 hgrow3 hnil3 hat3
          go_wp2
          go_roundw
          case rel => exact ⟨i + 1, _, _, _, by omega, by go_num, HN.out, by rw [HE.out, HKG.out k m rfl HM.out]; simp⟩
          case measure => simp [intOf]; omega
    · have hi : i = ns.length := by omega
      subst hi
      obtain ⟨e1, _⟩ := kids_end HE.out (show Tr.krun (ns.drop ns.length) ns.length op = ([], some op) by rw [List.drop_of_length_le (Nat.le_refl _)]; rfl)
      have E1 := hide e1
      clear e1
      go_wp2
      go_ret
      exact ⟨vs, _, op, rfl, by rw [E1.out]; exact HK.out⟩
end Go.Proofs.YtmklgiononbmmaaDoor
