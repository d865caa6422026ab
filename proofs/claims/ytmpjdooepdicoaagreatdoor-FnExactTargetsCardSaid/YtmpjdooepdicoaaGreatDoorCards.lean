/-
  DERIVED. GIVEN WITH THE SEED: THE CARDS: each row of YtmpjdooepdicoaaGreatDoorRows.lean that lists a variable, with what it lists TIED to the program's text (the seventh form; the later family's looks); each row that meets fmt, with fmt's text TOLD by the authors' own Lean function (tested against real Go, not proved from fmt's source: count such statements apart). THE CARD IS WHAT COUNTS. Prove the row's statement (the work); the ties are given (YtmpjdooepdicoaaGreatDoorTie.lean); close each card by the builder's one call (the guide's Derived/Test/ToyasCard.lean, 'card_holds'). Laid BY PROGRAM, IN A SANDBOX (cutbox-door.mjs). By AI agents, Wed Nov 11 2026. No macro, syntax, notation, axiom, sorry.
-/
import Derived.Test.YtmpjdooepdicoaaGreatDoorRows
import GoSem.ClaimSeven
namespace Go.Proofs.YtmpjdooepdicoaaGreatDoor
namespace Rows

/-- THE TIED CARD OF 'laws.FnExactTargets'. -/
def fnExactTargetsCard : Claim7 := { stood := { row := fnExactTargetsRow, standIns := [], harness := (true, "5aae94db9e3e0f25b67b33ae9ac3df65c03c8a8967af87ac0ba4f66a249ca2fc"), looks := true }, kinds := [], alts := [], laidByText := true, laidKinds := [.handle], laidTests := true, laidLooks := .later }
def FnExactTargetsCardSaid : Prop := Claim7.holds Tryz.pinned (.plain (OpenSpec.ofChange fnExactTargetsSpec)) fnExactTargetsCard

/-- THE SECOND FORM's CARD OF 'laws.FnExactTargets'. -/
def fnExactTargetsUptoCard : Claim7 := { stood := { row := fnExactTargetsUptoRow, standIns := [], harness := (true, "5aae94db9e3e0f25b67b33ae9ac3df65c03c8a8967af87ac0ba4f66a249ca2fc"), looks := true }, kinds := [], alts := [], laidByText := true, laidKinds := [.handle], laidTests := true, laidLooks := .later }
def FnExactTargetsUptoCardSaid : Prop := Claim7.holds Tryz.pinned (.plain (OpenSpec.upto fnExactTargetsSpec)) fnExactTargetsUptoCard
end Rows
end Go.Proofs.YtmpjdooepdicoaaGreatDoor
