/- What fits, on the program's side: lists. -/
import Derived.Test.YtmklgiononbmmaaDoorKe
namespace Go.Proofs.YtmklgiononbmmaaDoor
open Go.RowKit

abbrev Tr.Sp := List (ByteArray × Int)
def Tr.sget (x : ByteArray) : Tr.Sp → Option Int
  | [] => none
  | p :: r => if p.1 = x then some p.2 else Tr.sget x r
def Tr.cget (x : ByteArray) : List Tr.Sp → Option Int
  | [] => none
  | sc :: r => match Tr.sget x sc with
    | some v => some v
    | none => Tr.cget x r
def Tr.enterS (ns : List Tr.Nd) (k : Nat) (e : Tr.Sp × Tr.St) : Tr.Sp × Tr.St := match Tr.sget (Tr.textOf ns k) e.1 with
  | some _ => (e.1, Tr.faultS k 8 e.2)
  | none => ((Tr.textOf ns k, (k : Int)) :: e.1, e.2)
def Tr.iuse (ns : List Tr.Nd) (k : Nat) (ch : List Tr.Sp) (s : Tr.St) : Tr.St := match Tr.cget (Tr.textOf ns k) ch with
  | some v => { s with binds := s.binds.set k v }
  | none => Tr.faultS k 9 s
def Tr.all (G : Nat → List Tr.Sp → Tr.St → Tr.St) (ls : List Nat) (ch : List Tr.Sp) (s : Tr.St) : Tr.St := ls.foldl (fun s y => G y ch s) s
def Tr.ipar (G : Nat → List Tr.Sp → Tr.St → Tr.St) (ns : List Tr.Nd) (ks : List (List Nat)) (p : Nat) (sc : Tr.Sp) (ch : List Tr.Sp) (df : Bool) (s : Tr.St) : Tr.Sp × Tr.St :=
  ((Tr.enterS ns p (sc, Tr.all G (Tr.kidsOf ks p) (sc :: ch) s)).1, if df = true ∧ (Tr.kidsOf ks p).length = 0 then Tr.faultS p 10 (Tr.enterS ns p (sc, Tr.all G (Tr.kidsOf ks p) (sc :: ch) s)).2 else (Tr.enterS ns p (sc, Tr.all G (Tr.kidsOf ks p) (sc :: ch) s)).2)
def Tr.ifn (G : Nat → List Tr.Sp → Tr.St → Tr.St) (ns : List Tr.Nd) (ks : List (List Nat)) : List Nat → Tr.Sp → List Tr.Sp → Bool → Tr.St → Tr.St
  | [], _, _, _, s => s
  | [x], sc, ch, _, s => G x (sc :: ch) s
  | p :: q :: r, sc, ch, df, s => Tr.ifn G ns ks (q :: r) (Tr.ipar G ns ks p sc ch df s).1 ch (df || !decide ((Tr.kidsOf ks p).length = 0)) (Tr.ipar G ns ks p sc ch df s).2
def Tr.ents (ns : List Tr.Nd) (ms : List Nat) (e : Tr.Sp × Tr.St) : Tr.Sp × Tr.St := ms.foldl (fun e k => Tr.enterS ns k e) e
def Tr.ifile (G : Nat → List Tr.Sp → Tr.St → Tr.St) (ns : List Tr.Nd) (ks : List (List Nat)) (ls : List Nat) (ch : List Tr.Sp) (s : Tr.St) : Tr.St :=
  Tr.all G (ls.filter fun x => Tr.kindOf ns x != 23) ((Tr.ents ns (Tr.makesOf ns ks ls) ([], s)).1 :: ch) (Tr.ents ns (Tr.makesOf ns ks ls) ([], s)).2
def Tr.ilet (G : Nat → List Tr.Sp → Tr.St → Tr.St) (ns : List Tr.Nd) (k : Nat) (ch : List Tr.Sp) (s : Tr.St) : List Nat → Tr.St
  | [] => s
  | x :: r => Tr.all G r ([(Tr.textOf ns k, (k : Int))] :: ch) (G x ch s)
def Tr.iwalk (ns : List Tr.Nd) (ks : List (List Nat)) : Nat → Nat → List Tr.Sp → Tr.St → Tr.St
  | 0, _, _, s => s
  | f + 1, k, ch, s =>
    if Tr.kindOf ns k = 5 then Tr.iuse ns k ch s
    else if Tr.kindOf ns k = 14 ∨ Tr.kindOf ns k = 16 then Tr.ilet (Tr.iwalk ns ks f) ns k ch s (Tr.kidsOf ks k)
    else if Tr.kindOf ns k = 15 ∨ Tr.kindOf ns k = 20 then Tr.ifn (Tr.iwalk ns ks f) ns ks (Tr.kidsOf ks k) [] ch false s
    else if Tr.kindOf ns k = 24 then Tr.ifile (Tr.iwalk ns ks f) ns ks (Tr.kidsOf ks k) ch s
    else Tr.all (Tr.iwalk ns ks f) (Tr.kidsOf ks k) ch s

theorem Tr.cget_cons (x : ByteArray) (sc : Tr.Sp) (ch : List Tr.Sp) : Tr.cget x (sc :: ch) = (Tr.sget x sc).or (Tr.cget x ch) := by
  rw [Tr.cget]; cases Tr.sget x sc <;> rfl
/-- The built names, with what they bind. -/
def Tr.builtSp : Tr.Sp := [[102, 97, 105, 108], [102, 105, 108, 101, 115], [99, 117, 116], [98, 101, 103, 105, 110, 115], [119, 105, 116, 104, 111, 117, 116], [114, 101, 99, 111, 114, 100], [107, 101, 121, 115], [115, 112, 108, 105, 116], [106, 111, 105, 110], [117, 110, 105, 113, 117, 101], [115, 111, 114, 116, 101, 100], [114, 97, 110, 103, 101], [105, 110, 116], [116, 101, 120, 116], [108, 101, 110]].map fun l => (⟨l.toArray⟩, -2)
end Go.Proofs.YtmklgiononbmmaaDoor
