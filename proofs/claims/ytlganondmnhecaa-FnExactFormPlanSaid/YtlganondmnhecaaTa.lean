/- Walks: a text in quotes, on both sides, for plans. -/
import Derived.Test.YtlganondmnhecaaProg
import Derived.WalkKit
import Derived.WalkSpells
import Derived.WalkLawsBesides
import Derived.Deep.DeepFit
import Derived.Deep.DeepMust
import Derived.Deep.QuietTactic
import Derived.BigQuiet
import Derived.Deep.RegionWith
import Derived.Deep.RegionLaw
import Derived.Maps.AppendAt
import Derived.Deep.RegionHeld3
import Derived.Lib.Strings
import Derived.WalkSmall
namespace Go.Proofs.Ytlganondmnhecaa.Pl
open Go.RowKit

theorem hide {p : Prop} (h : p) : Hid p := h
theorem ret_bool {a b : Bool} (h : a = b) : Ending.returned (.bool a) = .returned (.bool b) := by rw [h]
theorem ret_int {k : IntKind} {a b : Int} (h : a = b) : Ending.returned (.int k a) = .returned (.int k b) := by rw [h]
theorem ret_str {s s' : ByteArray} (h : s = s') : Ending.returned (.string s) = .returned (.string s') := by rw [h]
theorem below_of_drew {B : Nat} {a w : World} (h : Below B a.drew w) : Below B a w := ⟨h.os, h.tape, h.output, h.size, h.block⟩
theorem step_append_own {P : Program} {ops : Array Oper} {o : Oper} {a : Act} {w : World} {K : Act → World → Prop} {Q : Exit → Act → World → Prop} {E : Prop}
    (hgd : o.guard = none) (s x : Operand) (t : TypeId) (ho : o.op = .call { callee := .builtin .append, args := #[s, x], argTypes := #[t, t] })
    (base : Nat) (e : TypeId) (i : TypeInfo) (z : Value) (size bytes : Nat) (ht : P.underlying t = some (.slice e)) (hi : P.info? e = some i) (hz : i.zero = some z)
    (hsize : i.size = size) (hby : i.bytes = bytes) (hzs : z.cells.size = size) (hsz : 0 < size)
    (v : Value) (n : Nat) (xs : List Value) (hs : a.eval s = v) (hown : w.ownsRow base e size v n xs)
    (ad : Addr) (m c : Nat) (news : List Value) (hx : a.eval x = .slice (some ad) m c) (hl : news.length = m * size) (hnews : ∀ j u, news[j]? = some u → w.cell? (ad.add j) = some u) (h1 : ∀ u ∈ news, u.oneCell' = true)
    (h63 : n + m ≤ maxLen) (hbytes : (n + m) * bytes ≤ 140737488355328) (hbase : base ≤ w.heap.size)
    (hK : ∀ v' w', w'.ownsRow base e size v' (n + m) (xs ++ news) → w.grownBy w' v.ownBlock → (v' = .slice none 0 0 ↔ v = .slice none 0 0 ∧ m = 0) → (v'.ownBlock = v.ownBlock ∨ v'.ownBlock = some w.heap.size) → K (a.put o.dst v') w') :
    if Region.wanted o (yielded ops a.tmps) = true then Oper.wp P o a w K Q else E := by
  have hw : Region.wanted o (yielded ops a.tmps) = true := by simp [Region.wanted, hgd]
  rw [if_pos hw]
  obtain ⟨v', w', hr, h2, h3, h4, h5⟩ := run_append_own_at (P := P) w base t o.type e i z size bytes ht hi hz hsize hby hzs hsz v n xs hown ad m c news hl hnews h1 h63 hbytes hbase
  unfold Oper.wp execOp
  simp only [ho, resolve, invoke, builtin, Sem.run_bind, Sem.run_pure, Result.andThen_ok, List.map_toArray, List.map_cons, List.map_nil, hs, hx, hr]
  exact hK _ _ h2 h3 h4 h5

def Tr.hexd (n : Nat) : UInt8 := if n < 10 then UInt8.ofNat (48 + n) else UInt8.ofNat (87 + n)
def Tr.qok (b : UInt8) : Bool := decide (32 ≤ b.toNat ∧ b.toNat ≤ 126 ∧ b.toNat ≠ 34 ∧ b.toNat ≠ 92)
def Tr.qb (b : UInt8) : List UInt8 := if Tr.qok b = true then [b] else [92, Tr.hexd (b.toNat / 16), Tr.hexd (b.toNat % 16)]
def Tr.quote (l : List UInt8) : List UInt8 := 34 :: (l.flatMap Tr.qb ++ [34])
def Tr.bytesOf (t : List UInt8) : List Value := t.map fun c => Value.int .u8 c.toNat
theorem Tr.bytesOf_app (t u : List UInt8) : Tr.bytesOf (t ++ u) = Tr.bytesOf t ++ Tr.bytesOf u := by simp [Tr.bytesOf]
theorem Tr.bytesOf_len (t : List UInt8) : (Tr.bytesOf t).length = t.length := by simp [Tr.bytesOf]
theorem Tr.strOf (t : List UInt8) : strOfNums (t.map fun c => (c.toNat : Int)) = ⟨t.toArray⟩ := by
  unfold strOfNums; simp [List.map_map, Function.comp_def]
theorem Tr.qb_len (b : UInt8) : (Tr.qb b).length ≤ 3 := by unfold Tr.qb; split <;> simp
theorem Tr.drop_cons (s : ByteArray) (j : Nat) (h : j < s.size) : s.data.toList.drop j = s[j] :: s.data.toList.drop (j + 1) := by
  have h' : j < s.data.toList.length := by simpa using h
  rw [List.drop_eq_getElem_cons h']
  congr 1

theorem Try.infoByte : (Try.prog.info? 5).map (fun i => (i.zero, i.size, i.bytes)) = some (some (.int .u8 0), 1, 1) := by kernel_rfl

theorem conv_row {w : World} {base g cap : Nat} {t : List UInt8} (h : w.ownsRow base 5 1 (.slice (some ⟨g, 0, none⟩) t.length cap) t.length (Tr.bytesOf t)) :
    (convert 33 9 (.slice (some ⟨g, 0, none⟩) t.length cap)).run Try.prog w = .ok (.string ⟨t.toArray⟩) w := by
  have := run_convert_bytes_arg (P := Try.prog) w 33 5 Try.underlying33 Try.underlying5 g 0 t.length cap (t.map fun c => (c.toNat : Int)) (by simp) (fun i hi => by
    rw [Nat.zero_add, h.cellAt i (by omega)]; simp [Tr.bytesOf, hi]) 9 Try.underlying9
  rw [this, Tr.strOf]

theorem rowb_some {W : World} {base : Nat} {e : TypeId} {size : Nat} {v : Value} {k : Nat} {xs : List Value} (h : W.ownsRow base e size v k xs) (hk : 0 < k) : ∃ g cap, v = .slice (some ⟨g, 0, none⟩) k cap := by
  rcases h.2 with ⟨_, h0⟩ | ⟨g, cap, _, hv, _⟩
  · omega
  · exact ⟨g, cap, hv⟩

/-- Behind 'out = append(out, ..)'. -/
theorem app_bytes {w wr w1 : World} {g cap k : Nat} {t u : List UInt8} {v' : Value} {o : Obj} (hk : u.length = k) (hk0 : 0 < k) (hown : wr.ownsRow w.heap.size 5 1 (.slice (some ⟨g, 0, none⟩) t.length cap) t.length (Tr.bytesOf t)) (hB : Below w.heap.size w wr)
    (hown' : w1.ownsRow w.heap.size 5 1 v' (t.length + k) (Tr.bytesOf t ++ Tr.bytesOf u)) (hg : (wr.alloc o).grownBy w1 (Value.slice (some ⟨g, 0, none⟩) t.length cap).ownBlock) :
    ∃ g' cap', v' = .slice (some ⟨g', 0, none⟩) (t.length + k) cap' ∧ w1.ownsRow w.heap.size 5 1 (.slice (some ⟨g', 0, none⟩) (t ++ u).length cap') (t ++ u).length (Tr.bytesOf (t ++ u)) ∧ Below w.heap.size w w1 := by
  obtain ⟨g', cap', rfl⟩ := rowb_some hown' (by omega)
  refine ⟨g', cap', rfl, by rw [Tr.bytesOf_app, List.length_append, hk]; exact hown', (hB.alloc hB.size _).grown hg (by have := hB.size; simp; omega) (fun k e => ?_)⟩
  exact (hown.lt k e).1

/-- The same, behind any world that keeps what was there. -/
theorem app_bytes' {w wr W w1 : World} {g cap k : Nat} {t u : List UInt8} {v' : Value} (hk : u.length = k) (hk0 : 0 < k) (hown : wr.ownsRow w.heap.size 5 1 (.slice (some ⟨g, 0, none⟩) t.length cap) t.length (Tr.bytesOf t)) (hW : Below w.heap.size w W)
    (hown' : w1.ownsRow w.heap.size 5 1 v' (t.length + k) (Tr.bytesOf t ++ Tr.bytesOf u)) (hg : W.grownBy w1 (Value.slice (some ⟨g, 0, none⟩) t.length cap).ownBlock) :
    ∃ g' cap', v' = .slice (some ⟨g', 0, none⟩) (t.length + k) cap' ∧ w1.ownsRow w.heap.size 5 1 (.slice (some ⟨g', 0, none⟩) (t ++ u).length cap') (t ++ u).length (Tr.bytesOf (t ++ u)) ∧ Below w.heap.size w w1 := by
  obtain ⟨g', cap', rfl⟩ := rowb_some hown' (by omega)
  exact ⟨g', cap', rfl, by rw [Tr.bytesOf_app, List.length_append, hk]; exact hown', hW.grown hg hW.size (fun k e => (hown.lt k e).1)⟩

theorem cell_byte3 (W : World) (a b c : UInt8) : ∀ (j : Nat) (u : Value), (Tr.bytesOf [a, b, c])[j]? = some u → (W.alloc (.cells #[.int .u8 a.toNat, .int .u8 b.toNat, .int .u8 c.toNat] 5)).drew.cell? ((⟨W.heap.size, 0, none⟩ : Addr).add j) = some u := by
  intro j u h
  show (W.alloc (.cells #[.int .u8 a.toNat, .int .u8 b.toNat, .int .u8 c.toNat] 5)).cell? ((⟨W.heap.size, 0, none⟩ : Addr).add j) = some u
  match j with
  | 0 => simp [Tr.bytesOf] at h; subst h; simp [Addr.add]
  | 1 => simp [Tr.bytesOf] at h; subst h; simp [Addr.add]
  | 2 => simp [Tr.bytesOf] at h; subst h; simp [Addr.add]
  | j + 3 => simp [Tr.bytesOf] at h
theorem one_bytes (t : List UInt8) : ∀ u ∈ Tr.bytesOf t, u.oneCell' = true := by
  intro u h
  simp [Tr.bytesOf] at h
  obtain ⟨c, _, rfl⟩ := h
  simp [Value.oneCell']
theorem hexd_at (q : Nat) (h : q < 16) : (⟨#[48, 49, 50, 51, 52, 53, 54, 55, 56, 57, 97, 98, 99, 100, 101, 102]⟩ : ByteArray)[q]'h = Tr.hexd q := by
  have : ∀ x : Fin 16, (⟨#[48, 49, 50, 51, 52, 53, 54, 55, 56, 57, 97, 98, 99, 100, 101, 102]⟩ : ByteArray)[x.val]'x.isLt = Tr.hexd x.val := by decide
  exact this ⟨q, h⟩

theorem cell_byte1 (W : World) (x : Int) : ∀ (j : Nat) (u : Value), [Value.int .u8 x][j]? = some u → (W.alloc (.cells #[.int .u8 x] 5)).cell? ((⟨W.heap.size, 0, none⟩ : Addr).add j) = some u := by
  intro j u h
  match j with
  | 0 => simp at h; subst h; simp [Addr.add]
  | j + 1 => simp at h

set_option maxRecDepth 100000 in
set_option maxHeartbeats 8000000 in
theorem quote_any (s : ByteArray) (w : World) (hs : s.size ≤ 2000000) : Calls Try.prog 10 #[.string s] w fun e w' => e = .returned (.string ⟨(Tr.quote s.data.toList).toArray⟩) ∧ Below w.heap.size w w' := by
  obtain ⟨i0, hi, hz0, hz1, hz2⟩ := info_parts Try.infoByte
  go_enter Try.func10, Try.ntmps10
  go_wp2
  go_loopw [3, 5] (fun v i wr => ∃ (j : Nat) (t : List UInt8) (g cap : Nat), j ≤ s.size ∧ i = .int .i64 j ∧ v = .slice (some ⟨g, 0, none⟩) t.length cap ∧ wr.ownsRow w.heap.size 5 1 (.slice (some ⟨g, 0, none⟩) t.length cap) t.length (Tr.bytesOf t) ∧ Below w.heap.size w wr ∧ t.length ≤ 1 + 3 * j ∧
      t ++ ((s.data.toList.drop j).flatMap Tr.qb ++ [34]) = Tr.quote s.data.toList) (fun _ i _ => s.size - (intOf i).toNat)
  case atStart =>
    exact ⟨0, [34], w.heap.size, 1, Nat.zero_le _, rfl, rfl, World.ownsRow_lit w #[.int .u8 34] 1 (Nat.le_refl _) (by decide) rfl, (Below.refl _ _).alloc (Nat.le_refl _) _, by simp, rfl⟩
  case round =>
    obtain ⟨j, t, g, cap, hj, rfl, rfl, hown, hB, htl, he⟩ := hrel
    have HE := hide he
    clear he
    have hsz := hB.size
    by_cases hlt : j < s.size
    · have hd := hide (Tr.drop_cons s j hlt)
      have h256 : s[j].toNat < 256 := UInt8.toNat_lt _
      by_cases hq : Tr.qok s[j] = true
      · have hb : 32 ≤ s[j].toNat ∧ s[j].toNat ≤ 126 ∧ s[j].toNat ≠ 34 ∧ s[j].toNat ≠ 92 := by simpa [Tr.qok] using hq
        have HQ := hide (show Tr.qb s[j] = [s[j]] by unfold Tr.qb; rw [if_pos hq])
        obtain ⟨b1, b2, b3, b4⟩ := hb
        have c1 : (32 : Int) ≤ (s[j].toNat : Int) := by omega
        have c2 : (s[j].toNat : Int) ≤ 126 := by omega
        have c3 : ((s[j].toNat : Int) != 34) = true := by simp; omega
        have c4 : ((s[j].toNat : Int) != 92) = true := by simp; omega
        go_wp2_with (at_builtin; refine wpList_append_own _ rfl _ _ 33 rfl w.heap.size 5 i0 (.int .u8 0) 1 1 Try.underlying33 hi hz0 hz1 hz2 rfl (by decide) _ _ _ rfl (hown.alloc _) ⟨wr.heap.size, 0, none⟩ 1 1 [.int .u8 s[j].toNat] rfl rfl (cell_byte1 _ _) (by simp [Value.oneCell']) ?_ ?_ ?_ ?_)
        · unfold maxLen; omega
        · omega
        · first | omega | (simp; omega)
        · intro v' w1 hown' hgrow _
          obtain ⟨g', cap', rfl, ho2, hb2⟩ := app_bytes (u := [s[j]]) (k := 1) rfl (by decide) hown hB hown' hgrow
          clear hown' hgrow hown
          go_wp2
          go_roundw
          case rel =>
            refine ⟨j + 1, t ++ [s[j]], g', cap', by omega, by go_num, by simp, ho2, hb2, by simp; omega, ?_⟩
            rw [← HE.out, hd.out, List.flatMap_cons, HQ.out]; simp
          case measure => simp [intOf]; omega
      · have hb : s[j].toNat < 32 ∨ (32 ≤ s[j].toNat ∧ 126 < s[j].toNat) ∨ (32 ≤ s[j].toNat ∧ s[j].toNat ≤ 126 ∧ s[j].toNat = 34) ∨ (32 ≤ s[j].toNat ∧ s[j].toNat ≤ 126 ∧ s[j].toNat ≠ 34 ∧ s[j].toNat = 92) := by
          simp [Tr.qok] at hq; omega
        have HQ := hide (show Tr.qb s[j] = [92, Tr.hexd (s[j].toNat / 16), Tr.hexd (s[j].toNat % 16)] by unfold Tr.qb; rw [if_neg hq])
        clear hq
        obtain ⟨q, eq⟩ : ∃ q, s[j].toNat / 16 = q := ⟨_, rfl⟩
        obtain ⟨r, er⟩ : ∃ r, s[j].toNat % 16 = r := ⟨_, rfl⟩
        have hq16 : q < 16 := by omega
        have hr16 : r < 16 := by omega
        have e1 : (s[j].toNat : Int) / 16 = (q : Int) := by omega
        have e2 : (s[j].toNat : Int).tmod 16 = (r : Int) := by rw [Int.tmod_eq_emod_of_nonneg (by omega)]; omega
        have e4 : IntKind.u8.wrap (q : Int) = (q : Int) := by rw [IntKind.wrap_u8]; omega
        have e5 : IntKind.u8.wrap (r : Int) = (r : Int) := by rw [IntKind.wrap_u8]; omega
        have f1 := hexd_at q hq16
        have f2 := hexd_at r hr16
        have HO := hide ((hown.alloc (.cells #[.int .u8 (92 : UInt8).toNat, .int .u8 (Tr.hexd q).toNat, .int .u8 (Tr.hexd r).toNat] 5)).drew)
        have HW := hide ((hB.alloc hB.size (.cells #[.int .u8 (92 : UInt8).toNat, .int .u8 (Tr.hexd q).toNat, .int .u8 (Tr.hexd r).toNat] 5)).drew)
        have HZ := hide HW.out.size
        have HOW := hide hown
        rw [eq, er] at HQ
        clear hown
        rcases hb with hb | hb | hb | hb
        · have d1 : ¬ ((32 : Int) ≤ (s[j].toNat : Int)) := by omega
          go_wp2_with fail
          go_region_held3 (fun _ => True) (trivial) ((refine step_append_own rfl (.tmp 41) (.tmp 54) 33 rfl w.heap.size 5 i0 (.int .u8 0) 1 1 Try.underlying33 hi hz0 hz1 hz2 rfl (by decide) (.slice (some ⟨g, 0, none⟩) t.length cap) t.length (Tr.bytesOf t) (by simp [Act.eval]) HO.out ⟨wr.heap.size, 0, none⟩ 3 3 (Tr.bytesOf [92, Tr.hexd q, Tr.hexd r]) (by simp [Act.eval]) rfl (cell_byte3 wr 92 (Tr.hexd q) (Tr.hexd r)) (one_bytes _) (by unfold maxLen; omega) (by omega) HZ.out ?_; intro v' w1 hown' hgrow _ _))
          all_goals
            obtain ⟨g', cap', rfl, ho2, hb2⟩ := app_bytes' (u := [92, Tr.hexd q, Tr.hexd r]) (k := 3) rfl (by decide) HOW.out HW.out hown' hgrow
            clear hown' hgrow
            go_wp2
            go_roundw
            case rel =>
              refine ⟨j + 1, t ++ [92, Tr.hexd q, Tr.hexd r], g', cap', by omega, by go_num, by simp, ho2, hb2, by simp; omega, ?_⟩
              rw [← HE.out, hd.out, List.flatMap_cons, HQ.out]; simp
            case measure => simp [intOf]; omega
        · have d1 : (32 : Int) ≤ (s[j].toNat : Int) := by omega
          have d2 : ¬ ((s[j].toNat : Int) ≤ 126) := by omega
          go_wp2_with fail
          go_region_held3 (fun _ => True) (trivial) ((refine step_append_own rfl (.tmp 41) (.tmp 54) 33 rfl w.heap.size 5 i0 (.int .u8 0) 1 1 Try.underlying33 hi hz0 hz1 hz2 rfl (by decide) (.slice (some ⟨g, 0, none⟩) t.length cap) t.length (Tr.bytesOf t) (by simp [Act.eval]) HO.out ⟨wr.heap.size, 0, none⟩ 3 3 (Tr.bytesOf [92, Tr.hexd q, Tr.hexd r]) (by simp [Act.eval]) rfl (cell_byte3 wr 92 (Tr.hexd q) (Tr.hexd r)) (one_bytes _) (by unfold maxLen; omega) (by omega) HZ.out ?_; intro v' w1 hown' hgrow _ _))
          all_goals
            obtain ⟨g', cap', rfl, ho2, hb2⟩ := app_bytes' (u := [92, Tr.hexd q, Tr.hexd r]) (k := 3) rfl (by decide) HOW.out HW.out hown' hgrow
            clear hown' hgrow
            go_wp2
            go_roundw
            case rel =>
              refine ⟨j + 1, t ++ [92, Tr.hexd q, Tr.hexd r], g', cap', by omega, by go_num, by simp, ho2, hb2, by simp; omega, ?_⟩
              rw [← HE.out, hd.out, List.flatMap_cons, HQ.out]; simp
            case measure => simp [intOf]; omega
        · have d1 : (32 : Int) ≤ (s[j].toNat : Int) := by omega
          have d2 : (s[j].toNat : Int) ≤ 126 := by omega
          have d3 : ((s[j].toNat : Int) != 34) = false := by simp; omega
          obtain rfl : q = 2 := by omega
          obtain rfl : r = 2 := by omega
          go_wp2_with fail
          go_region_held3 (fun _ => True) (trivial) ((refine step_append_own rfl (.tmp 41) (.tmp 54) 33 rfl w.heap.size 5 i0 (.int .u8 0) 1 1 Try.underlying33 hi hz0 hz1 hz2 rfl (by decide) (.slice (some ⟨g, 0, none⟩) t.length cap) t.length (Tr.bytesOf t) (by simp [Act.eval]) HO.out ⟨wr.heap.size, 0, none⟩ 3 3 (Tr.bytesOf [92, Tr.hexd 2, Tr.hexd 2]) (by simp [Act.eval]) rfl (cell_byte3 wr 92 (Tr.hexd 2) (Tr.hexd 2)) (one_bytes _) (by unfold maxLen; omega) (by omega) HZ.out ?_; intro v' w1 hown' hgrow _ _))
          all_goals
            obtain ⟨g', cap', rfl, ho2, hb2⟩ := app_bytes' (u := [92, Tr.hexd 2, Tr.hexd 2]) (k := 3) rfl (by decide) HOW.out HW.out hown' hgrow
            clear hown' hgrow
            go_wp2
            go_roundw
            case rel =>
              refine ⟨j + 1, t ++ [92, Tr.hexd 2, Tr.hexd 2], g', cap', by omega, by go_num, by simp, ho2, hb2, by simp; omega, ?_⟩
              rw [← HE.out, hd.out, List.flatMap_cons, HQ.out]; simp
            case measure => simp [intOf]; omega
        · have d1 : (32 : Int) ≤ (s[j].toNat : Int) := by omega
          have d2 : (s[j].toNat : Int) ≤ 126 := by omega
          have d3 : ((s[j].toNat : Int) != 34) = true := by simp; omega
          have d4 : ((s[j].toNat : Int) != 92) = false := by simp; omega
          obtain rfl : q = 5 := by omega
          obtain rfl : r = 12 := by omega
          go_wp2_with fail
          go_region_held3 (fun _ => True) (trivial) ((refine step_append_own rfl (.tmp 41) (.tmp 54) 33 rfl w.heap.size 5 i0 (.int .u8 0) 1 1 Try.underlying33 hi hz0 hz1 hz2 rfl (by decide) (.slice (some ⟨g, 0, none⟩) t.length cap) t.length (Tr.bytesOf t) (by simp [Act.eval]) HO.out ⟨wr.heap.size, 0, none⟩ 3 3 (Tr.bytesOf [92, Tr.hexd 5, Tr.hexd 12]) (by simp [Act.eval]) rfl (cell_byte3 wr 92 (Tr.hexd 5) (Tr.hexd 12)) (one_bytes _) (by unfold maxLen; omega) (by omega) HZ.out ?_; intro v' w1 hown' hgrow _ _))
          all_goals
            obtain ⟨g', cap', rfl, ho2, hb2⟩ := app_bytes' (u := [92, Tr.hexd 5, Tr.hexd 12]) (k := 3) rfl (by decide) HOW.out HW.out hown' hgrow
            clear hown' hgrow
            go_wp2
            go_roundw
            case rel =>
              refine ⟨j + 1, t ++ [92, Tr.hexd 5, Tr.hexd 12], g', cap', by omega, by go_num, by simp, ho2, hb2, by simp; omega, ?_⟩
              rw [← HE.out, hd.out, List.flatMap_cons, HQ.out]; simp
            case measure => simp [intOf]; omega
    · have HF := hide (show t ++ [34] = Tr.quote s.data.toList by rw [← HE.out, List.drop_of_length_le (by simp; omega)]; rfl)
      go_wp2_with (at_builtin; refine wpList_append_own _ rfl _ _ 33 rfl w.heap.size 5 i0 (.int .u8 0) 1 1 Try.underlying33 hi hz0 hz1 hz2 rfl (by decide) _ _ _ rfl (hown.alloc _) ⟨wr.heap.size, 0, none⟩ 1 1 [.int .u8 34] rfl rfl (cell_byte1 _ _) (by simp [Value.oneCell']) ?_ ?_ ?_ ?_)
      · unfold maxLen; omega
      · omega
      · first | omega | (simp; omega)
      · intro v' w1 hown' hgrow _
        obtain ⟨g', cap', rfl, ho2, hb2⟩ := app_bytes (u := [34]) (k := 1) rfl (by decide) hown hB hown' hgrow
        clear hown' hgrow hown
        have hcv := conv_row ho2
        rw [List.length_append, List.length_singleton] at hcv
        go_wp2
        go_ret
        exact ⟨by rw [← HF.out]; rfl, hb2⟩
set_option maxRecDepth 100000 in
set_option maxHeartbeats 8000000 in
theorem iquote_any (s : ByteArray) (w : World) (hs : s.size ≤ 2000000) : Calls Try.prog 13 #[.string s] w fun e w' => e = .returned (.string ⟨(Tr.quote s.data.toList).toArray⟩) ∧ Below w.heap.size w w' := by
  obtain ⟨i0, hi, hz0, hz1, hz2⟩ := info_parts Try.infoByte
  go_enter Try.func13, Try.ntmps13
  go_wp2
  go_loopw [3, 9] (fun v i wr => ∃ (j : Nat) (t : List UInt8) (g cap : Nat), j ≤ s.size ∧ i = .int .i64 j ∧ v = .slice (some ⟨g, 0, none⟩) t.length cap ∧ wr.ownsRow w.heap.size 5 1 (.slice (some ⟨g, 0, none⟩) t.length cap) t.length (Tr.bytesOf t) ∧ Below w.heap.size w wr ∧ t.length ≤ 1 + 3 * j ∧
      t ++ ((s.data.toList.drop j).flatMap Tr.qb ++ [34]) = Tr.quote s.data.toList) (fun _ i _ => s.size - (intOf i).toNat)
  case atStart =>
    exact ⟨0, [34], w.heap.size, 1, Nat.zero_le _, rfl, rfl, World.ownsRow_lit w #[.int .u8 34] 1 (Nat.le_refl _) (by decide) rfl, (Below.refl _ _).alloc (Nat.le_refl _) _, by simp, rfl⟩
  case round =>
    obtain ⟨j, t, g, cap, hj, rfl, rfl, hown, hB, htl, he⟩ := hrel
    have HE := hide he
    clear he
    have hsz := hB.size
    by_cases hlt : j < s.size
    · have hd := hide (Tr.drop_cons s j hlt)
      have h256 : s[j].toNat < 256 := UInt8.toNat_lt _
      by_cases hq : Tr.qok s[j] = true
      · have hb : 32 ≤ s[j].toNat ∧ s[j].toNat ≤ 126 ∧ s[j].toNat ≠ 34 ∧ s[j].toNat ≠ 92 := by simpa [Tr.qok] using hq
        have HQ := hide (show Tr.qb s[j] = [s[j]] by unfold Tr.qb; rw [if_pos hq])
        obtain ⟨b1, b2, b3, b4⟩ := hb
        have c1 : ¬ ((s[j].toNat : Int) < 32) := by omega
        have c2 : ¬ ((126 : Int) < (s[j].toNat : Int)) := by omega
        have c3 : ((s[j].toNat : Int) == 34) = false := by simp; omega
        have c4 : ((s[j].toNat : Int) == 92) = false := by simp; omega
        go_wp2_with (at_builtin; refine wpList_append_own _ rfl _ _ 33 rfl w.heap.size 5 i0 (.int .u8 0) 1 1 Try.underlying33 hi hz0 hz1 hz2 rfl (by decide) _ _ _ rfl (hown.alloc _) ⟨wr.heap.size, 0, none⟩ 1 1 [.int .u8 s[j].toNat] rfl rfl (cell_byte1 _ _) (by simp [Value.oneCell']) ?_ ?_ ?_ ?_)
        · unfold maxLen; omega
        · omega
        · first | omega | (simp; omega)
        · intro v' w1 hown' hgrow _
          obtain ⟨g', cap', rfl, ho2, hb2⟩ := app_bytes (u := [s[j]]) (k := 1) rfl (by decide) hown hB hown' hgrow
          clear hown' hgrow hown
          go_wp2
          go_roundw
          case rel =>
            refine ⟨j + 1, t ++ [s[j]], g', cap', by omega, by go_num, by simp, ho2, hb2, by simp; omega, ?_⟩
            rw [← HE.out, hd.out, List.flatMap_cons, HQ.out]; simp
          case measure => simp [intOf]; omega
      · have hb : s[j].toNat < 32 ∨ (32 ≤ s[j].toNat ∧ 126 < s[j].toNat) ∨ (32 ≤ s[j].toNat ∧ s[j].toNat ≤ 126 ∧ s[j].toNat = 34) ∨ (32 ≤ s[j].toNat ∧ s[j].toNat ≤ 126 ∧ s[j].toNat ≠ 34 ∧ s[j].toNat = 92) := by
          simp [Tr.qok] at hq; omega
        have HQ := hide (show Tr.qb s[j] = [92, Tr.hexd (s[j].toNat / 16), Tr.hexd (s[j].toNat % 16)] by unfold Tr.qb; rw [if_neg hq])
        clear hq
        obtain ⟨q, eq⟩ : ∃ q, s[j].toNat / 16 = q := ⟨_, rfl⟩
        obtain ⟨r, er⟩ : ∃ r, s[j].toNat % 16 = r := ⟨_, rfl⟩
        have hq16 : q < 16 := by omega
        have hr16 : r < 16 := by omega
        have e1 : (s[j].toNat : Int) / 16 = (q : Int) := by omega
        have e2 : (s[j].toNat : Int).tmod 16 = (r : Int) := by rw [Int.tmod_eq_emod_of_nonneg (by omega)]; omega
        have e4 : IntKind.u8.wrap (q : Int) = (q : Int) := by rw [IntKind.wrap_u8]; omega
        have e5 : IntKind.u8.wrap (r : Int) = (r : Int) := by rw [IntKind.wrap_u8]; omega
        have f1 := hexd_at q hq16
        have f2 := hexd_at r hr16
        have HO := hide ((hown.alloc (.cells #[.int .u8 (92 : UInt8).toNat, .int .u8 (Tr.hexd q).toNat, .int .u8 (Tr.hexd r).toNat] 5)).drew)
        have HW := hide ((hB.alloc hB.size (.cells #[.int .u8 (92 : UInt8).toNat, .int .u8 (Tr.hexd q).toNat, .int .u8 (Tr.hexd r).toNat] 5)).drew)
        have HZ := hide HW.out.size
        have HOW := hide hown
        rw [eq, er] at HQ
        clear hown
        rcases hb with hb | hb | hb | hb
        · have d1 : (s[j].toNat : Int) < 32 := by omega
          go_wp2_with fail
          go_region_held3 (fun _ => True) (trivial) ((refine step_append_own rfl (.tmp 29) (.tmp 36) 33 rfl w.heap.size 5 i0 (.int .u8 0) 1 1 Try.underlying33 hi hz0 hz1 hz2 rfl (by decide) (.slice (some ⟨g, 0, none⟩) t.length cap) t.length (Tr.bytesOf t) (by simp [Act.eval]) HO.out ⟨wr.heap.size, 0, none⟩ 3 3 (Tr.bytesOf [92, Tr.hexd q, Tr.hexd r]) (by simp [Act.eval]) rfl (cell_byte3 wr 92 (Tr.hexd q) (Tr.hexd r)) (one_bytes _) (by unfold maxLen; omega) (by omega) HZ.out ?_; intro v' w1 hown' hgrow _ _))
          all_goals
            obtain ⟨g', cap', rfl, ho2, hb2⟩ := app_bytes' (u := [92, Tr.hexd q, Tr.hexd r]) (k := 3) rfl (by decide) HOW.out HW.out hown' hgrow
            clear hown' hgrow
            go_wp2
            go_roundw
            case rel =>
              refine ⟨j + 1, t ++ [92, Tr.hexd q, Tr.hexd r], g', cap', by omega, by go_num, by simp, ho2, hb2, by simp; omega, ?_⟩
              rw [← HE.out, hd.out, List.flatMap_cons, HQ.out]; simp
            case measure => simp [intOf]; omega
        · have d1 : ¬ ((s[j].toNat : Int) < 32) := by omega
          have d2 : (126 : Int) < (s[j].toNat : Int) := by omega
          go_wp2_with fail
          go_region_held3 (fun _ => True) (trivial) ((refine step_append_own rfl (.tmp 29) (.tmp 36) 33 rfl w.heap.size 5 i0 (.int .u8 0) 1 1 Try.underlying33 hi hz0 hz1 hz2 rfl (by decide) (.slice (some ⟨g, 0, none⟩) t.length cap) t.length (Tr.bytesOf t) (by simp [Act.eval]) HO.out ⟨wr.heap.size, 0, none⟩ 3 3 (Tr.bytesOf [92, Tr.hexd q, Tr.hexd r]) (by simp [Act.eval]) rfl (cell_byte3 wr 92 (Tr.hexd q) (Tr.hexd r)) (one_bytes _) (by unfold maxLen; omega) (by omega) HZ.out ?_; intro v' w1 hown' hgrow _ _))
          all_goals
            obtain ⟨g', cap', rfl, ho2, hb2⟩ := app_bytes' (u := [92, Tr.hexd q, Tr.hexd r]) (k := 3) rfl (by decide) HOW.out HW.out hown' hgrow
            clear hown' hgrow
            go_wp2
            go_roundw
            case rel =>
              refine ⟨j + 1, t ++ [92, Tr.hexd q, Tr.hexd r], g', cap', by omega, by go_num, by simp, ho2, hb2, by simp; omega, ?_⟩
              rw [← HE.out, hd.out, List.flatMap_cons, HQ.out]; simp
            case measure => simp [intOf]; omega
        · have d1 : ¬ ((s[j].toNat : Int) < 32) := by omega
          have d2 : ¬ ((126 : Int) < (s[j].toNat : Int)) := by omega
          have d3 : ((s[j].toNat : Int) == 34) = true := by simp; omega
          obtain rfl : q = 2 := by omega
          obtain rfl : r = 2 := by omega
          go_wp2_with fail
          go_region_held3 (fun _ => True) (trivial) ((refine step_append_own rfl (.tmp 29) (.tmp 36) 33 rfl w.heap.size 5 i0 (.int .u8 0) 1 1 Try.underlying33 hi hz0 hz1 hz2 rfl (by decide) (.slice (some ⟨g, 0, none⟩) t.length cap) t.length (Tr.bytesOf t) (by simp [Act.eval]) HO.out ⟨wr.heap.size, 0, none⟩ 3 3 (Tr.bytesOf [92, Tr.hexd 2, Tr.hexd 2]) (by simp [Act.eval]) rfl (cell_byte3 wr 92 (Tr.hexd 2) (Tr.hexd 2)) (one_bytes _) (by unfold maxLen; omega) (by omega) HZ.out ?_; intro v' w1 hown' hgrow _ _))
          all_goals
            obtain ⟨g', cap', rfl, ho2, hb2⟩ := app_bytes' (u := [92, Tr.hexd 2, Tr.hexd 2]) (k := 3) rfl (by decide) HOW.out HW.out hown' hgrow
            clear hown' hgrow
            go_wp2
            go_roundw
            case rel =>
              refine ⟨j + 1, t ++ [92, Tr.hexd 2, Tr.hexd 2], g', cap', by omega, by go_num, by simp, ho2, hb2, by simp; omega, ?_⟩
              rw [← HE.out, hd.out, List.flatMap_cons, HQ.out]; simp
            case measure => simp [intOf]; omega
        · have d1 : ¬ ((s[j].toNat : Int) < 32) := by omega
          have d2 : ¬ ((126 : Int) < (s[j].toNat : Int)) := by omega
          have d3 : ((s[j].toNat : Int) == 34) = false := by simp; omega
          have d4 : ((s[j].toNat : Int) == 92) = true := by simp; omega
          obtain rfl : q = 5 := by omega
          obtain rfl : r = 12 := by omega
          go_wp2_with fail
          go_region_held3 (fun _ => True) (trivial) ((refine step_append_own rfl (.tmp 29) (.tmp 36) 33 rfl w.heap.size 5 i0 (.int .u8 0) 1 1 Try.underlying33 hi hz0 hz1 hz2 rfl (by decide) (.slice (some ⟨g, 0, none⟩) t.length cap) t.length (Tr.bytesOf t) (by simp [Act.eval]) HO.out ⟨wr.heap.size, 0, none⟩ 3 3 (Tr.bytesOf [92, Tr.hexd 5, Tr.hexd 12]) (by simp [Act.eval]) rfl (cell_byte3 wr 92 (Tr.hexd 5) (Tr.hexd 12)) (one_bytes _) (by unfold maxLen; omega) (by omega) HZ.out ?_; intro v' w1 hown' hgrow _ _))
          all_goals
            obtain ⟨g', cap', rfl, ho2, hb2⟩ := app_bytes' (u := [92, Tr.hexd 5, Tr.hexd 12]) (k := 3) rfl (by decide) HOW.out HW.out hown' hgrow
            clear hown' hgrow
            go_wp2
            go_roundw
            case rel =>
              refine ⟨j + 1, t ++ [92, Tr.hexd 5, Tr.hexd 12], g', cap', by omega, by go_num, by simp, ho2, hb2, by simp; omega, ?_⟩
              rw [← HE.out, hd.out, List.flatMap_cons, HQ.out]; simp
            case measure => simp [intOf]; omega
    · have HF := hide (show t ++ [34] = Tr.quote s.data.toList by rw [← HE.out, List.drop_of_length_le (by simp; omega)]; rfl)
      go_wp2_with (at_builtin; refine wpList_append_own _ rfl _ _ 33 rfl w.heap.size 5 i0 (.int .u8 0) 1 1 Try.underlying33 hi hz0 hz1 hz2 rfl (by decide) _ _ _ rfl (hown.alloc _) ⟨wr.heap.size, 0, none⟩ 1 1 [.int .u8 34] rfl rfl (cell_byte1 _ _) (by simp [Value.oneCell']) ?_ ?_ ?_ ?_)
      · unfold maxLen; omega
      · omega
      · first | omega | (simp; omega)
      · intro v' w1 hown' hgrow _
        obtain ⟨g', cap', rfl, ho2, hb2⟩ := app_bytes (u := [34]) (k := 1) rfl (by decide) hown hB hown' hgrow
        clear hown' hgrow hown
        have hcv := conv_row ho2
        rw [List.length_append, List.length_singleton] at hcv
        go_wp2
        go_ret
        exact ⟨by rw [← HF.out]; rfl, hb2⟩
end Go.Proofs.Ytlganondmnhecaa.Pl
