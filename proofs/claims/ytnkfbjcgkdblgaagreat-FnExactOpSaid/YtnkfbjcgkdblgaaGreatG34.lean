/- Joined: Ew, Ex, Ey. -/
import Derived.Shelf.SlSortCmp.WholeK
import Derived.Shelf.SlSortCmp.NoneTotal
import Derived.Test.YtnkfbjcgkdblgaaGreatProg
import Derived.Test.YtnkfbjcgkdblgaaGreatG33
namespace Go.Proofs
open Go.Shelf
def Tryz.sortF_ren : Go.Shelf.Ren := ⟨fun | 6 => 100 | 15 => 127 | 14 => 126 | 28 => 143 | 29 => 144 | 20 => 135 | 21 => 136 | 22 => 137 | 23 => 138 | 24 => 139 | 25 => 140 | 26 => 141 | 27 => 142 | 46 => 150 | 47 => 151 | 48 => 152 | 49 => 153 | 50 => 154 | 57 => 158 | n => n, fun | 22 => 98 | 24 => 131 | 25 => 133 | 3 => 3 | 39 => 161 | 0 => 0 | 53 => 174 | 55 => 176 | 4 => 4 | 46 => 168 | 45 => 167 | 50 => 152 | 5 => 5 | 9 => 9 | 66 => 179 | 70 => 183 | 76 => 187 | 77 => 188 | n => n, fun | n => n⟩
theorem Tryz.sortF : Go.Proofs.SlLaysF0.n6 Tryz.prog Tryz.sortF_ren := {
  mixed := by kernel_rfl
  f6 := ⟨Tryz.f100.name, by decide, Tryz.func100.trans (congrArg some (by kernel_rfl))⟩
  f14 := ⟨Tryz.f126.name, by decide, Tryz.func126.trans (congrArg some (by kernel_rfl))⟩
  f15 := Tryz.func127.trans (congrArg some (by kernel_rfl))
  f20 := ⟨Tryz.f135.name, by decide, Tryz.func135.trans (congrArg some (by kernel_rfl))⟩
  f21 := ⟨Tryz.f136.name, by decide, Tryz.func136.trans (congrArg some (by kernel_rfl))⟩
  f22 := ⟨Tryz.f137.name, by decide, Tryz.func137.trans (congrArg some (by kernel_rfl))⟩
  f23 := ⟨Tryz.f138.name, by decide, Tryz.func138.trans (congrArg some (by kernel_rfl))⟩
  f24 := ⟨Tryz.f139.name, by decide, Tryz.func139.trans (congrArg some (by kernel_rfl))⟩
  f25 := ⟨Tryz.f140.name, by decide, Tryz.func140.trans (congrArg some (by kernel_rfl))⟩
  f26 := ⟨Tryz.f141.name, by decide, Tryz.func141.trans (congrArg some (by kernel_rfl))⟩
  f27 := ⟨Tryz.f142.name, by decide, Tryz.func142.trans (congrArg some (by kernel_rfl))⟩
  f28 := Tryz.func143.trans (congrArg some (by kernel_rfl))
  f29 := Tryz.func144.trans (congrArg some (by kernel_rfl))
  f46 := ⟨Tryz.f150.name, by decide, Tryz.func150.trans (congrArg some (by kernel_rfl))⟩
  f47 := Tryz.func151.trans (congrArg some (by kernel_rfl))
  f48 := Tryz.func152.trans (congrArg some (by kernel_rfl))
  f49 := ⟨Tryz.f153.name, by decide, Tryz.func153.trans (congrArg some (by kernel_rfl))⟩
  f50 := ⟨Tryz.f154.name, by decide, Tryz.func154.trans (congrArg some (by kernel_rfl))⟩
  f57 := ⟨Tryz.f158.name, by decide, Tryz.func158.trans (congrArg some (by kernel_rfl))⟩
  t0 := Tryz.underlying0
  a0 := Tryz.isAgg0
  z0 := Tryz.sizeOf0
  v0 := Tryz.zeroValue0
  t3 := Tryz.underlying3
  a3 := Tryz.isAgg3
  z3 := Tryz.sizeOf3
  v3 := Tryz.zeroValue3
  t4 := Tryz.underlying4
  a4 := Tryz.isAgg4
  z4 := Tryz.sizeOf4
  v4 := Tryz.zeroValue4
  t5 := Tryz.underlying5
  a5 := Tryz.isAgg5
  z5 := Tryz.sizeOf5
  v5 := Tryz.zeroValue5
  t9 := Tryz.underlying9
  a9 := Tryz.isAgg9
  z9 := Tryz.sizeOf9
  v9 := Tryz.zeroValue9
  t22 := Tryz.underlying98
  a22 := Tryz.isAgg98
  z22 := Tryz.sizeOf98
  v22 := Tryz.zeroValue98
  t25 := Tryz.underlying133
  a25 := Tryz.isAgg133
  z25 := Tryz.sizeOf133
  v25 := Tryz.zeroValue133
  t39 := Tryz.underlying161
  a39 := Tryz.isAgg161
  z39 := Tryz.sizeOf161
  v39 := Tryz.zeroValue161
  t45 := Tryz.underlying167
  a45 := Tryz.isAgg167
  z45 := Tryz.sizeOf167
  v45 := Tryz.zeroValue167
  t46 := Tryz.underlying168
  a46 := Tryz.isAgg168
  z46 := Tryz.sizeOf168
  v46 := Tryz.zeroValue168
  t50 := Tryz.underlying152
  a50 := Tryz.isAgg152
  z50 := Tryz.sizeOf152
  v50 := Tryz.zeroValue152
  t53 := Tryz.underlying174
  a53 := Tryz.isAgg174
  z53 := Tryz.sizeOf174
  v53 := Tryz.zeroValue174
  t55 := Tryz.underlying176
  a55 := Tryz.isAgg176
  z55 := Tryz.sizeOf176
  v55 := Tryz.zeroValue176
  t66 := Tryz.underlying179
  a66 := Tryz.isAgg179
  z66 := Tryz.sizeOf179
  v66 := Tryz.zeroValue179
  t70 := Tryz.underlying183
  a70 := Tryz.isAgg183
  z70 := Tryz.sizeOf183
  v70 := Tryz.zeroValue183
  t76 := Tryz.underlying187
  a76 := Tryz.isAgg187
  z76 := Tryz.sizeOf187
  v76 := Tryz.zeroValue187
  t77 := Tryz.underlying188
  a77 := Tryz.isAgg188
  z77 := Tryz.sizeOf188
  v77 := Tryz.zeroValue188 }
end Go.Proofs
namespace Go.Proofs.YtnkfbjcgkdblgaaGreat.Vl
open Go.RowKit T.atoms T.ok T.high T.good T.allPlain DatAt T.ord

/-- A field, as the sort sees it: its name, its value, and the value's word of the heap. -/
abbrev Fe := T × T × TypeId × Value
def encF (e : Fe) : List Value := [.string e.1.text, .iface e.2.2.1 e.2.2.2]
def kidsF (e : Fe) : List T := [e.1, e.2.1]
def cfF (x y : Fe) : Int := cmpS x.1.text y.1.text

theorem FldL.els {w : World} {x : Nat} : ∀ {l : List T} {vs : List Value}, FldL w x l vs → ∃ d : List Fe, l = d.flatMap kidsF ∧ vs = d.flatMap encF ∧ ∀ e ∈ d, DatAt w x e.2.1 (.iface e.2.2.1 e.2.2.2)
  | [], vs, h => by unfold FldL at h; subst h; exact ⟨[], rfl, rfl, fun e h => by cases h⟩
  | [_], vs, h => by unfold FldL at h; exact h.elim
  | a :: b :: r, vs, h => by
    unfold FldL at h
    obtain ⟨v, vr, rfl, h2, h3⟩ := h
    obtain ⟨d, rfl, rfl, h4⟩ := FldL.els h3
    obtain ⟨y, u, rfl⟩ := h2.isIface
    refine ⟨(a, b, y, u) :: d, rfl, rfl, fun e he => ?_⟩
    rcases List.mem_cons.1 he with rfl | he
    · exact h2
    · exact h4 e he
theorem FldL.ofEls {w : World} {x : Nat} : ∀ (d : List Fe), (∀ e ∈ d, DatAt w x e.2.1 (.iface e.2.2.1 e.2.2.2)) → FldL w x (d.flatMap kidsF) (d.flatMap encF)
  | [], _ => by show FldL w x [] []; unfold FldL; rfl
  | (a, b, y, u) :: d, h => by
    show FldL w x (a :: b :: d.flatMap kidsF) (.string a.text :: .iface y u :: d.flatMap encF)
    unfold FldL
    exact ⟨.iface y u, d.flatMap encF, rfl, h _ (List.mem_cons_self ..), FldL.ofEls d (fun e he => h e (List.mem_cons_of_mem _ he))⟩
theorem encF_len (d : List Fe) : (d.flatMap encF).length = 2 * d.length := by
  induction d with
  | nil => rfl
  | cons e r ih =>
    rw [List.flatMap_cons, List.length_append, ih, List.length_cons]
    show 2 + 2 * r.length = _
    omega
theorem kidsF_len (d : List Fe) : (d.flatMap kidsF).length = 2 * d.length := by
  induction d with
  | nil => rfl
  | cons e r ih =>
    rw [List.flatMap_cons, List.length_append, ih, List.length_cons]
    show 2 + 2 * r.length = _
    omega
theorem encF_at : ∀ (d : List Fe) (i : Nat) (h : i < d.length), (d.flatMap encF)[2 * i]? = some (.string (d[i]).1.text) ∧ (d.flatMap encF)[2 * i + 1]? = some (.iface (d[i]).2.2.1 (d[i]).2.2.2)
  | e :: r, 0, _ => ⟨rfl, rfl⟩
  | e :: r, i + 1, h => by
    have ih := encF_at r i (by simpa using h)
    rw [show 2 * (i + 1) = 2 * i + 1 + 1 by omega]
    exact ih
theorem flatF [Inhabited Fe] (d : List Fe) (j : Nat) (h : j < d.length * 2) : (d.flatMap encF)[j]? = some ((Go.Sort.flatK encF 2 d.toArray)[j]!) := by
  have hh : j / 2 < d.length := by omega
  rw [Go.Sort.get_flatK _ _ _ j (by simpa using h)]
  have e1 : d.toArray[j / 2]! = d[j / 2] := by simp [hh]
  rw [e1]
  obtain ⟨a, b⟩ := encF_at d (j / 2) hh
  rcases Nat.mod_two_eq_zero_or_one j with hj | hj
  · rw [hj]
    rw [show 2 * (j / 2) = j by omega] at a
    rw [a]; rfl
  · rw [hj]
    rw [show 2 * (j / 2) + 1 = j by omega] at b
    rw [b]; rfl
theorem cfF_neg (x y : Fe) : ltOf cfF x y = true ↔ Go.Op.bytesLess x.1.text.toList y.1.text.toList = true := by
  unfold ltOf cfF
  rw [decide_eq_true_iff]
  constructor
  · intro h; exact cmpS_less.1 (cmpS_neg h)
  · intro h; have := cmpS_less.2 h; omega
theorem cfF_swo : Go.Sort.SWO (ltOf cfF) where
  irrefl x := by unfold ltOf cfF; rw [cmpS_self]; rfl
  trans x y z h1 h2 := (cfF_neg x z).2 (less_trans _ _ _ ((cfF_neg x y).1 h1) ((cfF_neg y z).1 h2))
  ntrans x y z h1 h2 := by
    cases h : ltOf cfF x z with
    | false => rfl
    | true =>
      have h3 := (cfF_neg x z).1 h
      have n1 : Go.Op.bytesLess x.1.text.toList y.1.text.toList = false := by
        cases q : Go.Op.bytesLess x.1.text.toList y.1.text.toList with
        | false => rfl
        | true => rw [(cfF_neg x y).2 q] at h1; cases h1
      have n2 : Go.Op.bytesLess y.1.text.toList z.1.text.toList = false := by
        cases q : Go.Op.bytesLess y.1.text.toList z.1.text.toList with
        | false => rfl
        | true => rw [(cfF_neg y z).2 q] at h2; cases h2
      have t1 := less_total y.1.text.toList x.1.text.toList
      rw [n1] at t1
      rcases Bool.or_eq_true _ _ ▸ (show (Go.Op.bytesLess y.1.text.toList x.1.text.toList || (y.1.text.toList == x.1.text.toList)) = true from t1) with q | q
      · exact absurd (less_trans _ _ _ q h3) (by rw [n2]; decide)
      · rw [beq_iff_eq] at q
        rw [q, h3] at n2
        cases n2
set_option maxHeartbeats 400000 in
theorem cmpLaysF [Inhabited Fe] (blk off size : Nat) (w : World) : CmpLays Tryz.prog 101 #[] encF 2 cfF blk off size w := by
  intro m os dk _ x y
  show Calls Tryz.prog 101 #[.agg #[.string x.1.text, .iface x.2.2.1 x.2.2.2], .agg #[.string y.1.text, .iface y.2.2.1 y.2.2.2]] _ _
  generalize sortWorldK encF 2 w blk off m dk os = W
  unfold cfF
  go_enter Tryz.func101, Tryz.ntmps101
  go_wp2_with (go_at_call 128; refine (strCompare_any _ _ _).mono ?_; rintro e w' ⟨rfl, rfl⟩)
  go_ret
  exact ⟨rfl, 0, _, by rw [Go.Sort.alloc_eq_grow, Go.Sort.alloc_eq_grow, Go.Sort.grow_grow]; rfl⟩
theorem sortK_block [Inhabited Fe] (w : World) (blk off n k : Nat) (d : Array Fe) (os : Array Obj) (hk : k ≠ blk) (hl : k < w.heap.size) : (sortWorldK encF 2 w blk off n d os).heap[k]? = w.heap[k]? := by
  unfold sortWorldK Go.Sort.grow Go.Sort.putRowK Go.Sort.putRow Go.Sort.mapBlock Go.Sort.ahead
  rw [Array.getElem?_append_left (by simpa using hl)]
  rw [Array.getElem?_modify, if_neg (by omega)]
theorem sortK_below [Inhabited Fe] (w : World) (blk off n B : Nat) (d : Array Fe) (os : Array Obj) (hB : B ≤ blk) (hl : blk < w.heap.size) : Below B w (sortWorldK encF 2 w blk off n d os) :=
  ⟨rfl, rfl, rfl, size_sortWorldK_c encF 2 w blk off n d os, fun k hk => sortK_block w blk off n k d os (by omega) (by omega)⟩

theorem list_extract (d : Array Fe) : (d.extract 0 d.size).toList = d.toList := by simp
/-- A row of fields of one's own, sorted by name. -/
theorem sortF_any (d : List Fe) (B n c : Nat) (p : Option Addr) (w : World) (hn : d.length = n) (hn1 : n ≤ 1048576) (x : Nat) (hx : x < B) (ho : w.ownsRow B 131 2 (.slice p n c) n (d.flatMap encF)) :
    Calls Tryz.prog 100 #[.slice p n c, .func (.func 101) #[] #[]] w fun e w' => e = .returned (.tuple #[]) ∧ ∃ d' : List Fe, d'.Perm d ∧ d'.Pairwise (fun a b => ltOf cfF b a = false) ∧ RowAt w' x p (d'.flatMap encF) ∧ Below B w w' := by
  haveI : Inhabited Fe := ⟨(.mk 0 0 ⟨#[]⟩ [], .mk 0 0 ⟨#[]⟩ [], 0, .nilIface)⟩
  subst hn
  rcases ho.2 with ⟨h1, h2⟩ | ⟨g, cap, cur, h1, hge, hg, _⟩
  · obtain rfl : d = [] := List.eq_nil_of_length_eq_zero h2
    have h := AnyF.slices_SortFunc_none Tryz.sortF p c (.func (.func 101) #[] #[]) w
    change Calls Tryz.prog 100 _ _ _ at h
    refine h.mono ?_
    rintro e w' ⟨rfl, rfl⟩
    exact ⟨rfl, [], .refl _, .nil, .inl rfl, Below.refl _ _⟩
  · cases h1
    have hlt := (ho.lt g rfl).2
    have hH : Go.Sort.HoldsK encF 2 w g 0 d.toArray := by
      intro j hj
      have hj' : j < d.length * 2 := by simpa using hj
      rw [Nat.zero_add]
      refine ⟨?_, ho.frozenAt j⟩
      rw [ho.cellAt j hj']
      exact flatF d j hj'
    have h := AnyQ.slices_SortFunc Tryz.sortF 2 Tryz.isAgg131 Tryz.sizeOf131 encF (fun _ => rfl) (fun x v hv => by simp [encF] at hv; rcases hv with rfl | rfl <;> rfl) cfF cfF_swo 101 #[] g 0 c d.toArray w (en_of Tryz.func101 (by kernel_rfl) (by kernel_rfl)) (cmpLaysF g 0 d.toArray.size w) hH hlt (by simp; omega)
    change Calls Tryz.prog 100 #[.slice (some ⟨g, 0, none⟩) d.length c, .func (.func 101) #[] #[]] _ _ at h
    refine h.mono ?_
    rintro e w' ⟨rfl, d', m, os, hp, hs, rfl⟩
    have hsz : d'.size = d.length := by simpa using hp.1
    have hperm : d'.toList.Perm d := by
      have h3 := hp.2.2
      rw [show d.toArray.size = d'.size by rw [hsz]; simp, list_extract] at h3
      rw [show d'.size = d.toArray.size by rw [hsz]; simp, list_extract] at h3
      simpa using h3
    have hHs := holdsK_sortWorldK_c encF 2 w g 0 d.toArray d' m os hH hlt hp.1
    refine ⟨rfl, d'.toList, hperm, ?_, ?_, sortK_below w g 0 m B d' os hge hlt⟩
    · rw [List.pairwise_iff_getElem]
      intro i j hi hj hij
      have hj2 : j < d'.size := by simpa using hj
      have := hs i j (Nat.zero_le _) hij (by simp at hj ⊢; omega)
      rw [getElem!_pos d' j hj2, getElem!_pos d' i (by omega)] at this
      exact this
    · refine .inr ⟨g, 0, rfl, ?_, Nat.lt_of_lt_of_le hlt (size_sortWorldK_c encF 2 w g 0 m d' os), ?_⟩
      · omega
      · intro j u hu
        have hj : j < d'.toList.length * 2 := by
          have := (List.getElem?_eq_some_iff.1 hu).1
          rw [encF_len] at this
          omega
        have h5 := (hHs j (by simpa using hj)).1
        rw [flatF d'.toList j hj] at hu
        rw [h5]
        simpa using hu
end Go.Proofs.YtnkfbjcgkdblgaaGreat.Vl
namespace Go.Proofs.YtnkfbjcgkdblgaaGreat.Vl
open Go.RowKit T.atoms T.ok T.high T.good T.allPlain DatAt T.ord

set_option maxRecDepth 100000 in
set_option maxHeartbeats 400000 in
theorem cloneF_any (vs : List Value) (p : Option Addr) (n c : Nat) (w : World) (hl : vs.length = n * 2) (hn : n ≤ 1048576) (h1 : ∀ u ∈ vs, u.oneCell' = true) (hr : RowC w p vs) :
    Calls Tryz.prog 99 #[.slice p n c] w fun e w' => ∃ v, e = .returned v ∧ w'.ownsRow w.heap.size 131 2 v n vs ∧ Below w.heap.size w w' := by
  obtain ⟨iN, hN, hNz, hNs, hNb⟩ := info_parts Tryz.infoFld
  have q22 : ∀ (w : World) (a : Option Addr) (n c n' c' : Nat), (binOp .eql 98 (.slice a n c) (.slice none n' c')).run Tryz.prog w = .ok (.bool a.isNone) w := fun w a n c n' c' => Lib.run_eql_slice_nil w _ _ a n c n' c' Tryz.underlying98
  have HR := hide hr
  have H1 := hide h1
  have HL := hide hl
  clear hr h1 hl
  cases p with
  | none =>
    have hv : vs = [] := by
      rcases HR.out with h | ⟨g, o, h, _⟩
      · exact h
      · cases h
    subst hv
    have hn0 : n = 0 := by have := HL.out; simp at this; omega
    subst hn0
    go_enter Tryz.func99, Tryz.ntmps99
    go_wp2
    go_ret
    exact ⟨_, rfl, World.ownsRow_nil _ _ _ _, Below.refl _ _⟩
  | some ad =>
    obtain ⟨g, o, sp⟩ := ad
    have HN : Hid (∀ (ob : Obj) (j : Nat) (u : Value), vs[j]? = some u → (w.alloc ob).cell? ((⟨g, o, sp⟩ : Addr).add j) = some u) := hide (by
      intro ob j u hu
      rcases HR.out with h | ⟨g', o', h, hg, hc⟩
      · subst h; simp at hu
      · cases h
        rw [add_plain]
        exact (((Below.refl w.heap.size w).alloc (Nat.le_refl _) ob).cell (p := ⟨g, o + j, none⟩) hg).trans (hc j u hu))
    go_enter Tryz.func99, Tryz.ntmps99
    go_wp2_with (at_builtin; refine wpList_append_own_at _ rfl _ _ 98 rfl w.heap.size 131 iN _ 2 32 Tryz.underlying98 hN hNz hNs hNb rfl (by decide) (.slice (some ⟨w.heap.size, 0, none⟩) 0 0) 0 [] rfl (World.ownsRow_lit (base := w.heap.size) w #[] 0 (Nat.le_refl _) (Nat.zero_le _) rfl) ⟨g, o, sp⟩ n c vs rfl (by have := HL.out; omega) (HN.out _) H1.out (by unfold maxLen; omega) (by omega) (by simp) ?_)
    intro v w1 hown1 hgrow1 hnil1 hat1
    have hb : Below w.heap.size w w1 := ((Below.refl _ _).alloc (Nat.le_refl _) _).grown hgrow1 (by simp) (fun q e => by simp [Value.ownBlock] at e; omega)
    obtain ⟨p', c', rfl⟩ := row_formE hown1
    have HO := hide hown1
    clear hgrow1 hnil1 hat1 hown1
    go_wp2
    go_ret
    exact ⟨_, rfl, by simpa using HO.out, hb⟩
end Go.Proofs.YtnkfbjcgkdblgaaGreat.Vl
