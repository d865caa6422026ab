/- Walks: a value drawn, three deep. -/
import Derived.Test.YtfpdoafpimaoaaaDh
namespace Go.Proofs.Ytfpdoafpimaoaaa.Vl
open Go.RowKit T.atoms T.ok T.high T.good T.allPlain

theorem draw1 (rb n p : Nat) (vb : Value) (w : World) (h : Rd w rb vb n p) (hp : p ≤ 899980000) : Calls Try.prog 41 #[.pointer (some ⟨rb, 0, none⟩), .int .i64 ((1 : Nat) : Int)] w fun e w' => DrawPost rb vb n p 180 9 w e w' :=
  draw_step rb n p 0 20 1 180 9 899980000 vb w h (by omega) hp (by omega) rfl rfl (by omega) (by omega) (by omega) (fun p w h hp => draw_low rb n p vb w h (by omega))
theorem draw2 (rb n p : Nat) (vb : Value) (w : World) (h : Rd w rb vb n p) (hp : p ≤ 899970000) : Calls Try.prog 41 #[.pointer (some ⟨rb, 0, none⟩), .int .i64 ((2 : Nat) : Int)] w fun e w' => DrawPost rb vb n p 820 41 w e w' :=
  draw_step rb n p 1 180 9 820 41 899970000 vb w h (by omega) hp (by omega) rfl rfl (by omega) (by omega) (by omega) (fun p w h hp => draw1 rb n p vb w h (by omega))
theorem draw3 (rb n p : Nat) (vb : Value) (w : World) (h : Rd w rb vb n p) (hp : p ≤ 899960000) : Calls Try.prog 41 #[.pointer (some ⟨rb, 0, none⟩), .int .i64 3] w fun e w' => DrawPost rb vb n p 3380 169 w e w' :=
  draw_step rb n p 2 820 41 3380 169 899960000 vb w h (by omega) hp (by omega) rfl rfl (by omega) (by omega) (by omega) (fun p w h hp => draw2 rb n p vb w h (by omega))
end Go.Proofs.Ytfpdoafpimaoaaa.Vl
