/-
  NARROWER THAN 'FOR EVERY INPUT', by the rows' own cells (each row's printed sentence says how): FnFold: laid.
  DERIVED. THE GIVEN ROWS OF THIS SEAT. 1 by the template 'for every input the law returns true; each argument reads behind the call as it read before'; 0 by the template 'total and deterministic' (their statements: YtkoiikmhfaebnaaGreatDoorTotals.lean).
  GIVEN WITH THE SEED: the statements are not yours to turn. If you find one false, say at which input.
  Laid BY PROGRAM, IN A SANDBOX (cutbox-rows.mjs): the forced cells as the released guide's own fill.sh prints them over the translation 2e8bb54c7459fc7a… (all of the seat's roots in one cut). By AI agents, Wed Nov 11 2026. No macro, syntax, notation, axiom, sorry.
-/
import Derived.Test.YtkoiikmhfaebnaaGreatDoorChecked
import GoSem.Claim
import GoSem.ClaimJoined
import GoSem.ClaimMapViews
import Derived.JoinedTies
import Derived.KernelRfl
namespace Go.Proofs.YtkoiikmhfaebnaaGreatDoor
/- THE CELL 'sum', in the pinned program and in every row, IS THE sha256 OF THE DUMP (.gsa) THAT YtkoiikmhfaebnaaGreatDoorProg.lean LOADS. Nothing in Lean hashes anything: it is a label: what it is worth is what the hold of that sum in a sandbox is worth. -/
noncomputable def Tryz.pinned : Pinned := { name := "ytkoiikmhfaebnaagreatdoor", sum := "2e8bb54c7459fc7a9f5082cbfe2a561c11b6d6430b13406829c73f1833f73422", checked := Tryz.checked }
namespace Rows
def none {H : Type} : Left H := { results := [], args := [] }

/- WHAT THE LISTED PACKAGE-LEVEL VARIABLES READ AS WHEN THE CALL BEGINS. Each datum BY PROGRAM (the guide's laid-datum.mjs) off the statement by which the dump's own 'gosem.cut.vars' lays the variable. In a bare row this is a premise. The card (YtkoiikmhfaebnaaGreatDoorCards.lean) ties it to the program's text. -/
def laid_loop_example_kilnclay_impl_builtNames {H : Type} : DataW H := .agg [.lit (.string [108, 101, 110]), .lit (.string [116, 101, 120, 116]), .lit (.string [105, 110, 116]), .lit (.string [114, 97, 110, 103, 101]), .lit (.string [115, 111, 114, 116, 101, 100]), .lit (.string [117, 110, 105, 113, 117, 101]), .lit (.string [106, 111, 105, 110]), .lit (.string [115, 112, 108, 105, 116]), .lit (.string [107, 101, 121, 115]), .lit (.string [114, 101, 99, 111, 114, 100]), .lit (.string [119, 105, 116, 104, 111, 117, 116]), .lit (.string [98, 101, 103, 105, 110, 115]), .lit (.string [99, 117, 116]), .lit (.string [102, 105, 108, 101, 115]), .lit (.string [102, 97, 105, 108])]

/-- 'laws.FnFold': WHATEVER THE INPUT: true; the input reads as it did. -/
def fnFoldSpec : ChangeSpec := { name := "fnFold", vars := ["loop.example/kilnclay/impl.builtNames"], fn := fun _ => fun
  | [d, g1] => { results := [.lit (.bool true)], args := [d], vars := [g1] }
  | _ => none }
def fnFoldRow : OpenClaim := { program := "ytkoiikmhfaebnaagreatdoor", sum := "2e8bb54c7459fc7a9f5082cbfe2a561c11b6d6430b13406829c73f1833f73422", func := "loop.example/kilnclay/laws.FnFold", spec := "fnFold", inPlace := ["internal/bytealg.IndexByteString", "internal/bytealg.abigen_runtime_cmpstring", "internal/bytealg.IndexString"], unfollowed := true, recurses := true, named := ["loop.example/kilnclay/impl.builtNames", "internal/bytealg.MaxLen"], apart := false, laid := [("loop.example/kilnclay/impl.builtNames", laid_loop_example_kilnclay_impl_builtNames)] }
def FnFoldSaid : Prop := fnFoldRow.holds Tryz.pinned (OpenSpec.ofChange fnFoldSpec)

/-- ITS FALSE NEIGHBOUR: 'it returns false'. Refute it at one input. -/
def fnFoldWrong : ChangeSpec := { name := "fnFold", vars := ["loop.example/kilnclay/impl.builtNames"], fn := fun _ => fun
  | [d, g1] => { results := [.lit (.bool false)], args := [d], vars := [g1] }
  | _ => none }
def FnFoldWrongFalsely : Prop := fnFoldRow.holds Tryz.pinned (OpenSpec.ofChange fnFoldWrong)

/- THE SECOND FORM. 'bulk': how many values and letters a reading holds, each counted each time it is reached (what is shared counts as often as it is met; a slice's spare places count too). A statement '..UptoSaid' is the law's where the arguments, and the package variables that the reading takes, are together of bulk at most 1048576: NARROWER than '..Said'. Prove '..Said' where nothing that the law and all that it calls make is longer than what came in: it says more and counts as full. Else prove '..UptoSaid'. A law counts once. -/
mutual
def uptoBulk {H : Type} : DataW H → Nat
  | .lit (.string bytes) => bytes.length + 1
  | .lit _ => 1
  | .nil => 1
  | .ptr d => uptoBulk d + 1
  | .slice elems spare => uptoBulkAll elems + uptoBulkAll spare + 1
  | .agg parts => uptoBulkAll parts + 1
  | .iface _ d => uptoBulk d + 1
  | .map entries => uptoBulkEntries entries + 1
  | .held _ => 1
def uptoBulkAll {H : Type} : List (DataW H) → Nat
  | [] => 0
  | d :: r => uptoBulk d + uptoBulkAll r
def uptoBulkEntries {H : Type} : List (Lit × DataW H) → Nat
  | [] => 0
  | x :: r => uptoBulkEntry x + uptoBulkEntries r
def uptoBulkEntry {H : Type} : Lit × DataW H → Nat
  | (.string bytes, d) => bytes.length + uptoBulk d + 1
  | (_, d) => uptoBulk d + 1
 end
def uptoSmall : (H : Type) → List (DataW H) → Bool := fun _ ds => decide (uptoBulkAll ds ≤ 1048576)
def OpenSpec.upto (s : _root_.Go.ChangeSpec) : _root_.Go.OpenSpec := { _root_.Go.OpenSpec.ofChange s with cond := some uptoSmall }

/-- 'laws.FnFold', WHERE WHAT IT READS IS OF BULK AT MOST 1048576: true; the input reads as it did. -/
def fnFoldUptoRow : OpenClaim := { program := "ytkoiikmhfaebnaagreatdoor", sum := "2e8bb54c7459fc7a9f5082cbfe2a561c11b6d6430b13406829c73f1833f73422", func := "loop.example/kilnclay/laws.FnFold", spec := "fnFold", inPlace := ["internal/bytealg.IndexByteString", "internal/bytealg.abigen_runtime_cmpstring", "internal/bytealg.IndexString"], unfollowed := true, recurses := true, named := ["loop.example/kilnclay/impl.builtNames", "internal/bytealg.MaxLen"], apart := false, laid := [("loop.example/kilnclay/impl.builtNames", laid_loop_example_kilnclay_impl_builtNames)], narrowed := true }
def FnFoldUptoSaid : Prop := fnFoldUptoRow.holds Tryz.pinned (OpenSpec.upto fnFoldSpec)

end Rows
end Go.Proofs.YtkoiikmhfaebnaaGreatDoor
