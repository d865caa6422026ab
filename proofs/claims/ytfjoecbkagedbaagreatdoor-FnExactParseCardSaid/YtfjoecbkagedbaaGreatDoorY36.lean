/- P5, P6, P7. -/
import Derived.Test.YtfjoecbkagedbaaGreatDoorY23
import Derived.Test.YtfjoecbkagedbaaGreatDoorY35
namespace Go.Proofs.YtfjoecbkagedbaaGreatDoor
open Go.RowKit
def Ip.FlOut (b : Nat) (ts : List Sc.T) (sz : Nat) (s : Pr.Dk) (w : World) (e : Ending) (w' : World) : Prop :=
  (∃ (r : Pr.Dk × Nat) (v : Value) (l : List Tr.Nd), e = .returned (.tuple #[v, .agg #[.int .i64 0, .int .i64 0]]) ∧ Pr.Cv ts sz (.fileL 0) s r ∧ r.1.bad = false ∧ r.1.out = s.out ++ l ∧ Ip.Mv b w w' ∧ Ip.Pt w.heap.size w' v (l ++ [⟨24, 0, 0, ⟨#[]⟩, r.2⟩])) ∨
  (∃ q : Nat, e = .returned (.tuple #[.nilIface, .agg #[.int .i64 6, .int .i64 (q : Int)]]) ∧ Pr.Ends ts sz (.fileL 0) s q ∧ Ip.Mv b w w')
abbrev Ip.fb0 (w : World) : World := (w.alloc (.cells #[.nilIface] 46)).alloc (.cells #[.int .i64 0, .int .i64 0] 26)
set_option maxRecDepth 100000 in
set_option maxHeartbeats 4000000 in
theorem ifile_any {b tc sz : Nat} {tp : Option Addr} {ts : List Sc.T} {s : Pr.Dk} (hbad : s.bad = false) (w0 : World) (hd0 : IP b tp tc ts sz s.p w0) :
    Calls Tryz.prog 15 #[.pointer (some ⟨b, 0, none⟩)] w0 (Ip.FlOut b ts sz s w0) := by
  have hmf : ∀ (fn : Fn) (first cap : Array Value) (w : World), (Instr.makeFunc fn first cap).run Tryz.prog w = .ok (.func fn first cap) w := fun _ _ _ _ => rfl
  have hlt := hd0.lt
  have hmost := hd0.most
  have HD0 := hide hd0
  clear hd0
  have hb1 := below_new w0 (.cells #[.nilIface] 46)
  have hb2 := below_new (w0.alloc (.cells #[.nilIface] 46)) (.cells #[.int .i64 0, .int .i64 0] 26)
  have hz1 : (w0.alloc (.cells #[.nilIface] 46)).heap.size = w0.heap.size + 1 := by simp
  have hz2 : ((w0.alloc (.cells #[.nilIface] 46)).alloc (.cells #[.int .i64 0, .int .i64 0] 26)).heap.size = w0.heap.size + 2 := by simp
  have HB := hide (show Below w0.heap.size w0 ((w0.alloc (.cells #[.nilIface] 46)).alloc (.cells #[.int .i64 0, .int .i64 0] 26)) from hb1.trans (hb2.mono (by rw [hz1]; omega)))
  have HO1 := hide (show ((w0.alloc (.cells #[.nilIface] 46)).alloc (.cells #[.int .i64 0, .int .i64 0] 26)).heap[w0.heap.size + 1]? = some (.cells #[.int .i64 0, .int .i64 0] 26 (0, 0)) by have := heap_alloc_new (w0.alloc (.cells #[.nilIface] 46)) (.cells #[.int .i64 0, .int .i64 0] 26); rw [hz1] at this; exact this)
  have HO0 := hide (show ((w0.alloc (.cells #[.nilIface] 46)).alloc (.cells #[.int .i64 0, .int .i64 0] 26)).heap[w0.heap.size]? = some (.cells #[.nilIface] 46 (0, 0)) from (hb2.block _ (by rw [hz1]; omega)).trans (heap_alloc_new w0 _))
  have HS := hide (show ∃ (t : Pr.Dk) (n : Nat) (l : List Tr.Nd), Ip.Row (w0.heap.size + 2) ((w0.alloc (.cells #[.nilIface] 46)).alloc (.cells #[.int .i64 0, .int .i64 0] 26)) (.slice none 0 0) n l ∧ t.bad = false ∧ t.out = s.out ++ l ∧ n ≤ t.p ∧ IP b tp tc ts sz t.p ((w0.alloc (.cells #[.nilIface] 46)).alloc (.cells #[.int .i64 0, .int .i64 0] 26)) ∧ Ip.Mv b ((w0.alloc (.cells #[.nilIface] 46)).alloc (.cells #[.int .i64 0, .int .i64 0] 26)) ((w0.alloc (.cells #[.nilIface] 46)).alloc (.cells #[.int .i64 0, .int .i64 0] 26)) ∧ (∀ r, Pr.Cv ts sz (.fileL n) t r → Pr.Cv ts sz (.fileL 0) s r) ∧ (∀ q, Pr.Ends ts sz (.fileL n) t q → Pr.Ends ts sz (.fileL 0) s q) from ⟨s, 0, [], .nil _ _, hbad, by simp, Nat.zero_le _, HD0.out.below HB.out, .refl _ _, fun _ h => h, fun _ h => h⟩)
  clear hb1 hb2 HD0
  go_enter_defers Tryz.func15, Tryz.ntmps15
  go_wp2_with fail
  go_loopw [4] (fun sv wr => ∃ (t : Pr.Dk) (n : Nat) (l : List Tr.Nd), Ip.Row (w0.heap.size + 2) wr sv n l ∧ t.bad = false ∧ t.out = s.out ++ l ∧ n ≤ t.p ∧ IP b tp tc ts sz t.p wr ∧ Ip.Mv b ((w0.alloc (.cells #[.nilIface] 46)).alloc (.cells #[.int .i64 0, .int .i64 0] 26)) wr ∧ (∀ r, Pr.Cv ts sz (.fileL n) t r → Pr.Cv ts sz (.fileL 0) s r) ∧ (∀ q, Pr.Ends ts sz (.fileL n) t q → Pr.Ends ts sz (.fileL 0) s q)) (fun _ wr => Ip.left b ts wr)
  case atStart => exact HS.out
  case round =>
    clear HS
    obtain ⟨w10, rfl⟩ : ∃ w10, w10 = wr := ⟨_, rfl⟩
    obtain ⟨t, n, l, hr, hbt, ho, hnp, hd, hm, hk1, hk2⟩ := hrel
    obtain ⟨sp, sc, rfl⟩ := hr.form
    have hsz := hm.size
    rw [hz2] at hsz
    have c0 := hd.c0
    have c1 := hd.c1
    have hle := hd.le
    have HL := hide hd.left
    have hr' := hr.below (Below.refl _ _).drew
    have hd' := hd.below (Below.refl _ _).drew
    have hm' := hm.more (Below.refl _ _).drew
    have HR := hide hr'
    have HO := hide ho
    have HD := hide hd'
    have HM := hide hm'
    have HK1 := hide hk1
    have HK2 := hide hk2
    clear hr ho hd hm hk1 hk2 hr' hd' hm'
    by_cases hp : t.p < ts.length
    · have hpi : (t.p : Int) < ts.length := by omega
      have Q := hide (iS_any (b := b) (tp := tp) (tc := tc) (ts := ts) (sz := sz) t hbt _ HD.out)
      go_wp2_with fail
      go_region
      go_wp2_with fail
      refine Q.out.mono ?_
      rintro e w12 (⟨r, v, l2, rfl, hc, hb2, ho2, hd2, hm2, hp2⟩ | ⟨q, rfl, hq, hm2⟩)
      rotate_left
      · -- it is stuck: the deferred function catches it
        have HMs := hide (HM.out.t hm2)
        have HEs := hide (HK2.out _ (Pr.Ends.file1 (n := n) hbt hp hq))
        have hbA := (HMs.out.block w0.heap.size (by rw [hz2]; omega) (by omega)).trans HO0.out
        have hbB := (HMs.out.block (w0.heap.size + 1) (by rw [hz2]; omega) (by omega)).trans HO1.out
        clear hq hm2 Q
        refine leaves_cons (f := 35) (args := #[.pointer (some ⟨w0.heap.size, 0, none⟩), .pointer (some ⟨w0.heap.size + 1, 0, none⟩)]) (by simp) (by simp [go_sem]) ?_
        refine (catch_stuck w0.heap.size (w0.heap.size + 1) q w12 (by omega) .nilIface (.int .i64 0) (.int .i64 0) (by simp only [World.cell?, hbA]; rfl) (by simp only [World.cell?, hbB]; rfl) (by simp only [World.cell?, hbB]; rfl) (by simp only [World.frozen?, hbA]; rfl) (by simp only [World.frozen?, hbB]; rfl) (by simp only [World.frozen?, hbB]; rfl)).mono ?_
        rintro e u' w13 ⟨rfl, rfl, hca⟩
        have k0 := hca.c0
        have k1 := hca.c1
        have k2 := hca.c2
        have HF : Hid (Ip.FlOut b ts sz s w0 (.returned (.tuple #[.nilIface, .agg #[.int .i64 6, .int .i64 (q : Int)]])) w13) := hide (.inr ⟨q, rfl, HEs.out, by
          have hA : Ip.Mv b w0 w12 := Ip.Mv.t (.below HB.out) HMs.out
          exact ⟨hca.mv.os.trans hA.os, hca.mv.tape.trans hA.tape, hca.mv.output.trans hA.output, Nat.le_trans hA.size hca.mv.size, fun x hx hxb => (hca.mv.block x (Nat.lt_of_lt_of_le hx hA.size) (fun e => by rcases e with e | e <;> omega)).trans (hA.block x hx hxb)⟩⟩)
        clear hca HMs HEs hbA hbB
        refine ⟨.tuple #[.nilIface, .agg #[.int .i64 6, .int .i64 (q : Int)]], by simp [results, Tryz.results15, go_sem, k0, k1, k2], HF.out⟩
      obtain ⟨t2, u2, rfl⟩ := hp2.iface
      have hs2 := hm2.size
      have hon : t.p < r.1.p := by
        rcases hc.on with h | h
        · rw [hb2] at h; cases h
        · exact h
      have hle2 := hd2.le
      have HC := hide hc
      have HO2 := hide ho2
      have HD2 := hide hd2
      have HM2 := hide (HM.out.t hm2)
      have HR2 := hide (HR.out.mv hm2 (by omega) (Nat.le_refl _))
      have HP2 := hide hp2
      have HA := hide (show ∀ q, (Value.slice sp n sc).ownBlock = some q → q < w10.drew.heap.size from fun q e => (HR.out.lt e).2)
      have hsd : w10.drew.heap.size = w10.heap.size := rfl
      clear hc ho2 hd2 hm2 hp2 Q HR
      go_wp2_with (at_builtin; refine wp_push rfl _ _ rfl (w0.heap.size + 2) w10.drew.heap.size n (.slice sp n sc) (.iface t2 u2) l l2 HR2.out HP2.out (by omega) (by omega) HA.out (by omega) rfl rfl ?_)
      intro v13 w13 hr hb
      obtain ⟨sq, sd, rfl⟩ := hr.form
      have HR3 := hide hr
      have HD3 := hide (HD2.out.fresh hb (by omega))
      have HM3 := hide (HM2.out.fresh hb (by rw [hz2]; exact Nat.le_refl _))
      have HMS := hide (show Ip.left b ts w13 < Ip.left b ts w10 from by rw [HD3.out.left, HL.out]; omega)
      clear hr hb HR2 HP2 HA
      go_wp2
      go_roundw
      case rel => exact ⟨r.1, n + 1, l ++ l2, HR3.out, hb2, by rw [HO2.out, HO.out, List.append_assoc], by omega, HD3.out, HM3.out, fun x h => HK1.out _ (.fileL_go (by rw [hbt]; simpa using hp) HC.out h), fun x h => HK2.out _ (.file2 hbt hp HC.out h)⟩
      case measure => exact HMS.out
    · have hpi : ¬ (t.p : Int) < ts.length := by omega
      have HCv := hide (HK1.out _ (.fileL_end (s := t) (n := n) (by simp; exact .inr (by omega))))
      have Q := hide (newPart_any 24 0 0 0 ⟨#[]⟩ sp n sc w10.drew)
      go_wp2_with fail
      go_region
      go_wp2_with fail
      refine Q.out.mono ?_
      rintro e w11 ⟨rfl, hb⟩
      have HPm := hide ((HR.out.below hb).made (x := ⟨24, 0, 0, ⟨#[]⟩, (n : Int)⟩) rfl)
      have hM := HM.out.more hb
      have hbA := (hM.block w0.heap.size (by rw [hz2]; omega) (by omega)).trans HO0.out
      have hbB := (hM.block (w0.heap.size + 1) (by rw [hz2]; omega) (by omega)).trans HO1.out
      have x0 : w11.cell? ⟨w0.heap.size, 0, none⟩ = some .nilIface := by simp only [World.cell?, hbA]; rfl
      have x1 : w11.cell? ⟨w0.heap.size + 1, 0, none⟩ = some (.int .i64 0) := by simp only [World.cell?, hbB]; rfl
      have x2 : w11.cell? ⟨w0.heap.size + 1, 1, none⟩ = some (.int .i64 0) := by simp only [World.cell?, hbB]; rfl
      have y0 : w11.frozen? ⟨w0.heap.size, 0, none⟩ = false := by simp only [World.frozen?, hbA]; rfl
      have y1 : w11.frozen? ⟨w0.heap.size + 1, 0, none⟩ = false := by simp only [World.frozen?, hbB]; rfl
      have y2 : w11.frozen? ⟨w0.heap.size + 1, 1, none⟩ = false := by simp only [World.frozen?, hbB]; rfl
      have HMf := hide (Ip.Mv.t (.below HB.out) hM)
      obtain ⟨tf, uf, hpv⟩ := HPm.out.iface
      rw [hpv] at HPm
      rw [hpv]
      clear hb hM hbA hbB Q hpv
      have HSet := hide (show ∀ v : Value, Below w0.heap.size w11 (((w11.setCell ⟨w0.heap.size, 0, none⟩ v).setCell ⟨w0.heap.size + 1, 0, none⟩ (.int .i64 0)).setCell ⟨w0.heap.size + 1, 1, none⟩ (.int .i64 0)) from fun v => (((Below.refl _ w11).setCell (p := ⟨w0.heap.size, 0, none⟩) (Nat.le_refl _) _).setCell (p := ⟨w0.heap.size + 1, 0, none⟩) (Nat.le_succ _) _).setCell (p := ⟨w0.heap.size + 1, 1, none⟩) (Nat.le_succ _) _)
      have HFin : Hid (Ip.FlOut b ts sz s w0 (.returned (.tuple #[.iface tf uf, .agg #[.int .i64 0, .int .i64 0]])) (((w11.setCell ⟨w0.heap.size, 0, none⟩ (.iface tf uf)).setCell ⟨w0.heap.size + 1, 0, none⟩ (.int .i64 0)).setCell ⟨w0.heap.size + 1, 1, none⟩ (.int .i64 0))) := hide (.inl ⟨(t, n), _, l, rfl, HCv.out, hbt, HO.out, HMf.out.fresh (HSet.out _) (Nat.le_refl _), HPm.out.go (Nat.le_add_right _ _) (HSet.out _).size (fun q hq _ => by
        rw [Below.heap_setCell _ _ _ _ (show q ≠ w0.heap.size + 1 by omega), Below.heap_setCell _ _ _ _ (show q ≠ w0.heap.size + 1 by omega), Below.heap_setCell _ _ _ _ (show q ≠ w0.heap.size by omega)])⟩)
      go_wp2
      refine leaves_cons (f := 35) (args := #[.pointer (some ⟨w0.heap.size, 0, none⟩), .pointer (some ⟨w0.heap.size + 1, 0, none⟩)]) (by simp) (by simp [go_sem]) ?_
      refine (catch_idle ⟨w0.heap.size, 0, none⟩ ⟨w0.heap.size + 1, 0, none⟩ _).mono ?_
      rintro e u' w12 ⟨rfl, rfl, rfl⟩
      refine ⟨.tuple #[.iface tf uf, .agg #[.int .i64 0, .int .i64 0]], by simp [results, Tryz.results15, go_sem, x0, x1, x2], HFin.out⟩
end Go.Proofs.YtfjoecbkagedbaaGreatDoor
namespace Go.Proofs.YtfjoecbkagedbaaGreatDoor
open Go.RowKit
theorem ikids_at (k o m c : Int) (t : ByteArray) (sl : Value) (hs : ∃ p n c, sl = .slice p n c) (w : World) :
    Calls Tryz.prog 162 #[.agg #[.int .i64 k, .int .i64 o, .int .i64 m, .string t, .int .i64 c, sl]] w fun e w' => e = .returned sl ∧ Below w.heap.size w w' := by
  obtain ⟨p, n, c, rfl⟩ := hs
  go_enter Tryz.func162, Tryz.ntmps162
  go_wp2
  go_ret
  exact ⟨rfl, (Below.refl _ _).alloc (Nat.le_refl _) _⟩
set_option maxRecDepth 100000 in
theorem iself_at (k o m c : Int) (t : ByteArray) (sl : Value) (hs : ∃ p n c, sl = .slice p n c) (w : World) :
    Calls Tryz.prog 165 #[.agg #[.int .i64 k, .int .i64 o, .int .i64 m, .string t, .int .i64 c, sl]] w fun e w' => e = .returned (.agg #[.int .i64 k, .int .i64 o, .int .i64 m, .string t, .int .i64 c]) ∧ Below w.heap.size w w' := by
  obtain ⟨p, n, c', rfl⟩ := hs
  go_enter Tryz.func165, Tryz.ntmps165
  go_wp2
  refine bodyPost_ret (v := .agg #[.int .i64 k, .int .i64 o, .int .i64 m, .string t, .int .i64 c]) (by simp [results, Tryz.results165, go_sem]) rfl ⟨rfl, ?_⟩
  repeat (first | (refine Below.setCell ?_ (by show w.heap.size ≤ w.heap.size + 1; omega) _) | (refine Below.alloc ?_ (by simp) _))
  exact Below.refl _ _
theorem Ip.cond_mem {c : Bool} {a b : TypeId} {l : List TypeId} (ha : a ∈ l) (hb : b ∈ l) : cond c a b ∈ l := by cases c <;> assumption
theorem Ip.ty_mem (k : Int) : Ip.ty k ∈ ([106, 107, 108, 109, 110, 111, 112, 113, 114, 115, 116, 117, 118, 119, 120, 121, 122, 123, 124, 125, 126] : List TypeId) := by
  unfold Ip.ty
  repeat (refine Ip.cond_mem (by simp) ?_)
  simp
theorem Ip.ty_or (k : Int) : Ip.ty k = 106 ∨ Ip.ty k = 107 ∨ Ip.ty k = 108 ∨ Ip.ty k = 109 ∨ Ip.ty k = 110 ∨ Ip.ty k = 111 ∨ Ip.ty k = 112 ∨ Ip.ty k = 113 ∨ Ip.ty k = 114 ∨ Ip.ty k = 115 ∨ Ip.ty k = 116 ∨ Ip.ty k = 117 ∨ Ip.ty k = 118 ∨ Ip.ty k = 119 ∨ Ip.ty k = 120 ∨ Ip.ty k = 121 ∨ Ip.ty k = 122 ∨ Ip.ty k = 123 ∨ Ip.ty k = 124 ∨ Ip.ty k = 125 ∨ Ip.ty k = 126 := by
  have h := Ip.ty_mem k
  simpa only [List.mem_cons, List.not_mem_nil, or_false] using h
theorem meth_kids (k o m c : Int) (t : ByteArray) (sl : Value) (w : World) : (Go.method 321 (Ip.ty k) (.agg #[.int .i64 k, .int .i64 o, .int .i64 m, .string t, .int .i64 c, sl]) "loop.example/kilnclay/impl.kids").run Tryz.prog w = .ok (162, .agg #[.int .i64 k, .int .i64 o, .int .i64 m, .string t, .int .i64 c, sl]) w := by
  rcases Ip.ty_or k with h | h | h | h | h | h | h | h | h | h | h | h | h | h | h | h | h | h | h | h | h <;> rw [h] <;> kernel_rfl
theorem meth_self (k o m c : Int) (t : ByteArray) (sl : Value) (w : World) : (Go.method 321 (Ip.ty k) (.agg #[.int .i64 k, .int .i64 o, .int .i64 m, .string t, .int .i64 c, sl]) "loop.example/kilnclay/impl.self").run Tryz.prog w = .ok (165, .agg #[.int .i64 k, .int .i64 o, .int .i64 m, .string t, .int .i64 c, sl]) w := by
  rcases Ip.ty_or k with h | h | h | h | h | h | h | h | h | h | h | h | h | h | h | h | h | h | h | h | h <;> rw [h] <;> kernel_rfl
theorem cells_litQ (W : World) (cs : List Value) (t : TypeId) : ∀ (j : Nat) (u : Value), cs[j]? = some u → (W.alloc (.cells cs.toArray t)).cell? ((⟨W.heap.size, 0, none⟩ : Addr).add j) = some u := by
  intro j u hu
  rw [add_plainP, Nat.zero_add, World.cell?, heap_alloc_new']
  simpa using hu
/-- From one world to the next a slice of nodes has grown. -/
structure Ip.Gw (v v' : Value) (w w' : World) : Prop where
  mv : Pr.Mv (fun q => v.ownBlock = some q) w w'
  own : v'.ownBlock = v.ownBlock ∨ ∀ q, v'.ownBlock = some q → w.heap.size ≤ q
theorem Ip.Gw.below {v : Value} {w w' : World} (hb : Below w.heap.size w w') : Ip.Gw v v w w' := ⟨.below hb, .inl rfl⟩
theorem Ip.Gw.trans {v v' v'' : Value} {w w' w'' : World} (h : Ip.Gw v v' w w') (k : Ip.Gw v' v'' w' w'') : Ip.Gw v v'' w w'' := by
  refine ⟨h.mv.trans k.mv (fun _ _ e => e) ?_, ?_⟩
  · intro q hq e
    rcases h.own with h1 | h1
    · rw [← h1]; exact e
    · exact absurd (h1 q e) (by omega)
  · rcases k.own with k1 | k1
    · rw [k1]; exact h.own
    · exact .inr fun q e => Nat.le_trans h.mv.size (k1 q e)
theorem Ip.Gw.grown {v v' : Value} {w w' : World} (hg : w.grownBy w' v.ownBlock) (ho : v'.ownBlock = v.ownBlock ∨ v'.ownBlock = some w.heap.size) : Ip.Gw v v' w w' :=
  ⟨.grown hg (fun _ e => e), ho.imp id (fun e q h => by rw [e] at h; cases h; exact Nat.le_refl _)⟩
theorem row_cellI {w : World} {sl : Value} {xs : List Value} (h : w.ownsRow 0 46 1 sl xs.length xs) {i : Nat} (hi : i < xs.length) : ∃ g c, sl = .slice (some ⟨g, 0, none⟩) xs.length c ∧ w.cell? ⟨g, i, none⟩ = some xs[i] ∧ xs.length ≤ c := by
  rcases h.2 with ⟨_, h0⟩ | ⟨g, cap, cur, hv, _, hg, hc, _, hsz, ht⟩
  · omega
  · refine ⟨g, cap, hv, ?_, hc⟩
    simp only [World.cell?, hg]
    have h1 : (cur.toList.take (xs.length * 1))[i]? = some xs[i] := by rw [ht]; exact List.getElem?_eq_getElem hi
    rw [List.getElem?_take, if_pos (by omega)] at h1
    simpa using h1
set_option maxRecDepth 100000 in
set_option maxHeartbeats 4000000 in
theorem nodesOf_any (lo : Nat) : ∀ (n : Nat) (B : Nat → Prop) (v : Value) (l : List Tr.Nd) (w : World), Ip.At B w n v l → (∀ q, B q → q < w.heap.size) → ∀ (sv : Value) (acc : List Tr.Nd), w.ownsRow lo 41 5 sv acc.length (Tr.cellsOf acc) → (∀ q, sv.ownBlock = some q → ¬ B q) → acc.length + l.length ≤ 1000000 → lo ≤ w.heap.size →
    Calls Tryz.prog 16 #[v, sv] w fun e w' => ∃ sv', e = .returned sv' ∧ w'.ownsRow lo 41 5 sv' (acc ++ l).length (Tr.cellsOf (acc ++ l)) ∧ Ip.Gw sv sv' w w'
  | 0, _, _, _, _, h, _, _, _, _, _, _, _ => h.elim
  | n + 1, B, v, l, w, h, hBw, sv, acc, hrow, hap, hlen, hlo => by
    obtain ⟨iN, hN, hNz, hNs, hNb⟩ := info_parts Tryz.infoNdP
    obtain ⟨x, sl, xs, r, rfl, hxk, hr, hB, hk, rfl⟩ := h
    obtain ⟨lp, lc, rfl⟩ := row_formP hr
    have ih := nodesOf_any lo n
    obtain ⟨k, o, m, t, c⟩ := x
    obtain rfl : c = (xs.length : Int) := hxk
    have hmk := meth_kids k o m (xs.length : Int) t (.slice lp xs.length lc)
    have hms := meth_self k o m (xs.length : Int) t (.slice lp xs.length lc)
    have Q := hide (ikids_at k o m (xs.length : Int) t (.slice lp xs.length lc) ⟨_, _, _, rfl⟩ w)
    have hxl : xs.length ≤ 9223372036854775807 := by
      rcases hr.2 with ⟨_, h0⟩ | ⟨_, cap, _, _, _, _, hc, hm, _⟩
      · omega
      · unfold maxLen at hm; omega
    have HR := hide hr
    have HB := hide hB
    have HBW := hide hBw
    have HAP := hide hap
    have hlen2 : acc.length + (r.length + 1) ≤ 1000000 := by simpa using hlen
    have hb0 := Below.refl w.heap.size w
    have HS : Hid (∀ w1 : World, Below w.heap.size w w1 → ∃ (i : Nat) (acc' rest : List Tr.Nd), i ≤ xs.length ∧ (Value.int .i64 0) = .int .i64 (i : Int) ∧ Ip.Kids (Ip.At B w n) (xs.drop i) rest ∧ acc' ++ rest = acc ++ r ∧ w1.ownsRow lo 41 5 sv acc'.length (Tr.cellsOf acc') ∧ Ip.Gw sv sv w w1) := hide (fun w1 hb => ⟨0, acc, r, Nat.zero_le _, rfl, hk, rfl, row_belowP hrow hb, .below hb⟩)
    clear hr hB hk hBw hap hrow hlen hb0
    unfold Ip.pv
    go_enter Tryz.func16, Tryz.ntmps16
    go_wp2_with fail
    refine Q.out.mono ?_
    rintro e w1 ⟨rfl, hb1⟩
    have HS1 := hide (HS.out w1 hb1)
    clear hb1 Q HS
    go_wp2_with fail
    go_loopw [1, 10] (fun s1 iv wr => ∃ (i : Nat) (acc' rest : List Tr.Nd), i ≤ xs.length ∧ iv = .int .i64 (i : Int) ∧ Ip.Kids (Ip.At B w n) (xs.drop i) rest ∧ acc' ++ rest = acc ++ r ∧ wr.ownsRow lo 41 5 s1 acc'.length (Tr.cellsOf acc') ∧ Ip.Gw sv s1 w wr) (fun _ iv _ => xs.length - (intOf iv).toNat)
    case atStart => exact HS1.out
    case round =>
      clear HS1
      obtain ⟨i, acc', rest, hi, rfl, hk, he, hrow, hg⟩ := hrel
      obtain ⟨p1, c1, rfl⟩ := row_formP hrow
      have hsz := hg.mv.size
      have HKS : Hid (∀ q, B q → q < w.heap.size ∧ wr.heap[q]? = w.heap[q]?) := hide (fun q hq => ⟨HBW.out q hq, hg.mv.block q (HBW.out q hq) (fun e => HAP.out q e hq)⟩)
      have HNB : Hid (∀ q, (Value.slice p1 acc'.length c1).ownBlock = some q → ¬ B q) := hide (fun q e hq => by
        rcases hg.own with h1 | h1
        · exact HAP.out q (h1 ▸ e) hq
        · exact absurd (HBW.out q hq) (by have := h1 q e; omega))
      have hel : acc'.length + rest.length = acc.length + r.length := by rw [← List.length_append, he, List.length_append]
      by_cases hlt : i < xs.length
      · have hli : (i : Int) < (xs.length : Int) := by omega
        have hi0 : (0 : Int) ≤ (i : Int) := by omega
        rw [List.drop_eq_getElem_cons hlt] at hk
        obtain ⟨a, r2, ka, kr, rfl⟩ := hk
        obtain ⟨g, gc, hsl, hcell, hgc⟩ := row_cellI (row_own HR.out (fun _ _ => Nat.zero_le _) (fun q e => (HKS.out q (HB.out q e)).2)) hlt
        have hap1 := ka.go (B' := B) (w' := wr) (fun _ h => h) (fun q h => (HKS.out q h).2)
        obtain ⟨ta, ua, hxi⟩ := (show Ip.Pt 0 wr xs[i] a from ⟨n, hap1.go (fun q h => ⟨Nat.zero_le _, by have := (HKS.out q h).1; omega⟩) (fun _ _ => rfl)⟩).iface
        rw [hxi] at hcell hap1
        cases hsl
        have Q := hide (ih B (.iface ta ua) a wr hap1 (fun q h => by have := (HKS.out q h).1; omega) (.slice p1 acc'.length c1) acc' hrow HNB.out (by simp at hel; omega) (by omega))
        have HKR := hide kr
        have HE := hide he
        have HG := hide hg
        clear hap1 ka kr he hg hrow
        go_wp2_with fail
        refine Q.out.mono ?_
        rintro e w2 ⟨s2, rfl, hr2, hg2⟩
        obtain ⟨nn, hnn⟩ : ∃ nn, nn = (acc' ++ a).length := ⟨_, rfl⟩
        rw [← hnn] at hr2
        have HNN := hide hnn
        clear hnn
        obtain ⟨p2, c2, rfl⟩ := row_formP hr2
        have HR2 := hide hr2
        have HG2 := hide (HG.out.trans hg2)
        clear hr2 hg2 Q
        go_wp2
        go_roundw
        case rel => exact ⟨i + 1, acc' ++ a, r2, by omega, by go_num, HKR.out, by rw [List.append_assoc]; exact HE.out, by rw [← HNN.out]; exact HR2.out, HG2.out⟩
        case measure => simp [intOf]; omega
      · have hli : ¬ (i : Int) < (xs.length : Int) := by omega
        obtain rfl : i = xs.length := by omega
        rw [List.drop_length] at hk
        have hk : rest = [] := hk
        subst hk
        rw [List.append_nil] at he
        have HE := hide he
        clear he
        have Q := hide (iself_at k o m (xs.length : Int) t (.slice lp xs.length lc) ⟨_, _, _, rfl⟩ wr)
        have HG := hide hg
        have HROW := hide hrow
        clear hg hrow
        go_wp2_with fail
        refine Q.out.mono ?_
        rintro e w2 ⟨rfl, hb2⟩
        have hbb := below_new w2 (.cells #[.int .i64 k, .int .i64 o, .int .i64 m, .string t, .int .i64 (xs.length : Int)] 41)
        have HR2 := hide (row_belowP (row_belowP HROW.out hb2) hbb)
        have HG2 := hide ((HG.out.trans (.below hb2)).trans (.below hbb))
        have hz2 : (w2.alloc (.cells #[.int .i64 k, .int .i64 o, .int .i64 m, .string t, .int .i64 (xs.length : Int)] 41)).heap.size = w2.heap.size + 1 := by simp
        have hs2 := hb2.size
        clear hb2 hbb Q
        go_wp2_with (at_builtin; refine wpList_append_own_at _ rfl _ _ 22 rfl lo 41 iN _ 5 48 Tryz.underlying22 hN hNz hNs hNb rfl (by decide) (.slice p1 acc'.length c1) acc'.length (Tr.cellsOf acc') rfl HR2.out ⟨w2.heap.size, 0, none⟩ 1 1 [.int .i64 k, .int .i64 o, .int .i64 m, .string t, .int .i64 (xs.length : Int)] rfl rfl (cells_litQ w2 [.int .i64 k, .int .i64 o, .int .i64 m, .string t, .int .i64 (xs.length : Int)] _) (by simp [Value.oneCell']) (by unfold maxLen; simp at hel; omega) (by simp at hel; omega) (by rw [hz2]; omega) ?_)
        intro v3 w3 r1 r2 _ r4
        have HF : Hid (w3.ownsRow lo 41 5 v3 (acc ++ (r ++ [(⟨k, o, m, t, xs.length⟩ : Tr.Nd)])).length (Tr.cellsOf (acc ++ (r ++ [(⟨k, o, m, t, xs.length⟩ : Tr.Nd)])))) := hide (by
          rw [← List.append_assoc, ← HE.out, Tr.cellsOf_snocP, List.length_append]
          exact r1)
        have HG3 := hide (HG2.out.trans (.grown r2 (by rw [hz2]; exact r4)))
        obtain ⟨p3, c3, rfl⟩ := row_formP r1
        clear r1 r2 r4
        go_wp2
        go_ret
        exact ⟨_, rfl, HF.out, HG3.out⟩
end Go.Proofs.YtfjoecbkagedbaaGreatDoor
namespace Go.Proofs.YtfjoecbkagedbaaGreatDoor
def Sc.Fine (x : Sc.T) : Prop := x.text.length ≤ 1000 ∧ (x.kind = 2 → x.text ≠ [61])
theorem Sc.word_fine {t : List UInt8} (h : t ∈ Sc.words) : t.length ≤ 1000 ∧ t ≠ [61] := by
  have key : ∀ x ∈ Sc.words, x.length ≤ 1000 ∧ x ≠ [61] := by decide
  exact key t h
theorem Sc.mark_fine {t : List UInt8} (h : t ∈ Sc.marks) : t.length ≤ 1000 := by
  have key : ∀ x ∈ Sc.marks, x.length ≤ 1000 := by decide
  exact key t h
theorem Sc.one_fine (l : List UInt8) : (Sc.one l).text.length ≤ 1000 ∧ ((Sc.one l).kind = 2 → (Sc.one l).text ≠ [61]) := by
  unfold Sc.one
  split
  · exact ⟨by simp [Sc.bad], by simp [Sc.bad]⟩
  · split
    · unfold Sc.oneNum
      split
      · exact ⟨by simp, by simp⟩
      · exact ⟨by simp [Sc.bad], by simp [Sc.bad]⟩
    · split
      · unfold Sc.oneName
        split
        · rename_i h
          have := Sc.word_fine h
          exact ⟨this.1, fun _ => this.2⟩
        · split
          · exact ⟨by simp [Sc.bad], by simp [Sc.bad]⟩
          · exact ⟨by simp only; omega, by simp⟩
      · split
        · unfold Sc.oneText
          split
          · exact ⟨by simp [Sc.bad], by simp [Sc.bad]⟩
          · split
            · exact ⟨by simp [Sc.bad], by simp [Sc.bad]⟩
            · exact ⟨by simp only; omega, by simp⟩
        · unfold Sc.oneMark
          split
          · exact ⟨by simp [Sc.bad], by simp [Sc.bad]⟩
          · rename_i h
            exact ⟨Sc.mark_fine (List.mem_of_find?_eq_some h), by simp⟩
theorem Sc.scan_fine : ∀ (f k : Nat) (l : List UInt8), ∀ x ∈ (Sc.scan f k l).1, Sc.Fine x
  | 0, _, _, x, h => by simp [Sc.scan] at h
  | f + 1, k, l, x, h => by
    rw [Sc.scan] at h
    split at h
    · simp at h
    · split at h
      · simp at h
      · rcases List.mem_cons.1 h with rfl | h
        · exact Sc.one_fine _
        · exact Sc.scan_fine f _ _ x h
theorem Sc.toks_fine (s : ByteArray) : ∀ x ∈ Sc.toks s, Sc.Fine x := by
  intro x h
  unfold Sc.toks at h
  split at h
  · simp at h
  · split at h
    · exact Sc.scan_fine _ _ _ x h
    · simp at h
section
variable {ts : List Sc.T} {sz : Nat} {s : Pr.Dk}
/-- The nodes that are out have short texts. -/
def Pr.Sm (s : Pr.Dk) : Prop := ∀ x ∈ s.out, x.text.size ≤ 1000
theorem Pr.Sm.put (h : Pr.Sm s) (k o n : Int) {t : List UInt8} (ht : t.length ≤ 1000) (c : Nat) : Pr.Sm (Pr.put s k o n t c) := by
  intro x hx
  simp only [Pr.put, List.mem_append, List.mem_cons, List.not_mem_nil, or_false] at hx
  rcases hx with hx | rfl
  · exact h x hx
  · simpa [ByteArray.size] using ht
theorem Pr.Sm.out {s' : Pr.Dk} (h : Pr.Sm s) (e : s'.out = s.out) : Pr.Sm s' := fun x hx => h x (e ▸ hx)
theorem Pr.Sm.adv (h : Pr.Sm s) : Pr.Sm (Pr.adv s) := h
theorem Pr.Sm.need (h : Pr.Sm s) (t : List UInt8) : Pr.Sm (Pr.need ts sz s t) := h.out (Pr.need_out s t)
theorem Pr.Sm.name (h : Pr.Sm s) : Pr.Sm (Pr.name ts sz s) := h.out (Pr.name_out s)
theorem Pr.Sm.stop (h : Pr.Sm s) : Pr.Sm (Pr.stop ts sz s) := h.out (Pr.stop_out s)
theorem Pr.tok_short (hts : ∀ x ∈ ts, Sc.Fine x) (s : Pr.Dk) : (Pr.tok ts sz s).text.length ≤ 1000 := by
  unfold Pr.tok
  cases h : ts[s.p]? with
  | none => simp
  | some x => exact (hts x (List.mem_of_getElem? h)).1
theorem Pr.nameT_short (hts : ∀ x ∈ ts, Sc.Fine x) (s : Pr.Dk) : (Pr.nameT ts sz s).length ≤ 1000 := by
  unfold Pr.nameT
  split
  · exact Pr.tok_short hts s
  · simp
theorem Pr.nil_short : ([] : List UInt8).length ≤ 1000 := by simp
set_option maxHeartbeats 2000000 in
theorem Pr.pe_sm (hts : ∀ x ∈ ts, Sc.Fine x) (f : Nat) : ∀ (c : Pr.Cmd) (s : Pr.Dk), Pr.Sm s → Pr.Sm (Pr.pe ts sz f c s).1 := by
  induction f with
  | zero => intro c s h; exact h
  | succ f ih =>
    intro c s h
    cases c using Pr.Cmd.elim with
    | list =>
      unfold Pr.pe
      split
      · exact h.adv.put _ _ _ Pr.nil_short _
      · dsimp only
        have h1 := ih .e s h
        generalize (Pr.pe ts sz f .e s).1 = s1 at *
        split
        · have h2 : Pr.Sm ({ Pr.adv s1 with out := s1.out.take s.out.length } : Pr.Dk) := fun x hx => h1 x (List.mem_of_mem_take hx)
          have h3 := ih .e _ ((h2.name (ts := ts) (sz := sz)).need (ts := ts) (sz := sz) Pr.sIn)
          generalize (Pr.pe ts sz f .e (Pr.need ts sz (Pr.name ts sz { Pr.adv s1 with out := s1.out.take s.out.length }) Pr.sIn)).1 = s3 at *
          have h4 : Pr.Sm ({ s3 with out := s3.out ++ s1.out.drop s.out.length } : Pr.Dk) := fun x hx => by
            rcases List.mem_append.1 hx with hx | hx
            · exact h3 x hx
            · exact h1 x (List.mem_of_mem_drop hx)
          generalize ({ s3 with out := s3.out ++ s1.out.drop s.out.length } : Pr.Dk) = s4 at *
          refine Pr.Sm.put (Pr.Sm.need ?_ _) _ _ _ (Pr.nameT_short hts _) _
          split
          · exact ih .e _ h4.adv
          · exact h4
        · exact ((ih (.listL 1) _ h1).need _).put _ _ _ Pr.nil_short _
    | _ =>
      unfold Pr.pe
      (try dsimp only)
      repeat' (first | (with_reducible exact h) | (with_reducible apply Pr.Sm.need) | (with_reducible apply Pr.Sm.name) | (with_reducible apply Pr.Sm.stop) | (with_reducible apply Pr.Sm.adv) | (with_reducible refine Pr.Sm.put ?_ _ _ _ Pr.nil_short _) | (with_reducible refine Pr.Sm.put ?_ _ _ _ (Pr.nameT_short hts _) _) | (with_reducible refine Pr.Sm.put ?_ _ _ _ (Pr.tok_short hts _) _) | (with_reducible apply ih) | split | dsimp only)
theorem Pr.Cv.sm (hts : ∀ x ∈ ts, Sc.Fine x) {c : Pr.Cmd} {r : Pr.Dk × Nat} (h : Pr.Cv ts sz c s r) (hs : Pr.Sm s) : Pr.Sm r.1 := by
  obtain ⟨f, hf⟩ := h
  have := Pr.pe_sm (sz := sz) hts f c s hs
  rwa [hf f (Nat.le_refl _)] at this
end
end Go.Proofs.YtfjoecbkagedbaaGreatDoor
