/-
  DERIVED. GIVEN WITH THE SEED: THE CARDS: each row of YtmklgiononbmmaaDoorRows.lean that lists a variable, with what it lists TIED to the program's text (the seventh form; the later family's looks); each row that meets fmt, with fmt's text TOLD by the authors' own Lean function (tested against real Go, not proved from fmt's source: count such statements apart). THE CARD IS WHAT COUNTS. Prove the row's statement (the work); the ties are given (YtmklgiononbmmaaDoorTie.lean); close each card by the builder's one call (the guide's Derived/Test/ToyasCard.lean, 'card_holds'). Laid BY PROGRAM, IN A SANDBOX (cutbox-door.mjs). By AI agents, Wed Nov 11 2026. No macro, syntax, notation, axiom, sorry.
-/
import Derived.Test.YtmklgiononbmmaaDoorRows
import GoSem.ClaimSeven
namespace Go.Proofs.YtmklgiononbmmaaDoor
namespace Rows

/-- THE TIED CARD OF 'laws.FnExactCheck'. -/
def fnExactCheckCard : Claim7 := { stood := { row := fnExactCheckRow, standIns := [], harness := (true, "824650cfc8b4d858e706105d789c38e1d556a79bd043e5d39783afe0af1954fb"), looks := false }, kinds := [], alts := [], laidByText := true, laidKinds := [.data], laidTests := true, laidLooks := .later }
def FnExactCheckCardSaid : Prop := Claim7.holds Tryd.pinned (.plain (OpenSpec.ofChange fnExactCheckSpec)) fnExactCheckCard

/-- THE TIED CARD OF 'laws.FnExactBinds'. -/
def fnExactBindsCard : Claim7 := { stood := { row := fnExactBindsRow, standIns := [], harness := (true, "824650cfc8b4d858e706105d789c38e1d556a79bd043e5d39783afe0af1954fb"), looks := false }, kinds := [], alts := [], laidByText := true, laidKinds := [.data], laidTests := true, laidLooks := .later }
def FnExactBindsCardSaid : Prop := Claim7.holds Tryd.pinned (.plain (OpenSpec.ofChange fnExactBindsSpec)) fnExactBindsCard

/-- THE TIED CARD OF 'laws.FnExactRename'. -/
def fnExactRenameCard : Claim7 := { stood := { row := fnExactRenameRow, standIns := [], harness := (true, "824650cfc8b4d858e706105d789c38e1d556a79bd043e5d39783afe0af1954fb"), looks := false }, kinds := [], alts := [], laidByText := true, laidKinds := [.data], laidTests := true, laidLooks := .later }
def FnExactRenameCardSaid : Prop := Claim7.holds Tryd.pinned (.plain (OpenSpec.ofChange fnExactRenameSpec)) fnExactRenameCard

/-- THE TIED CARD OF 'laws.FnExactLocals'. -/
def fnExactLocalsCard : Claim7 := { stood := { row := fnExactLocalsRow, standIns := [], harness := (true, "824650cfc8b4d858e706105d789c38e1d556a79bd043e5d39783afe0af1954fb"), looks := false }, kinds := [], alts := [], laidByText := true, laidKinds := [.data], laidTests := true, laidLooks := .later }
def FnExactLocalsCardSaid : Prop := Claim7.holds Tryd.pinned (.plain (OpenSpec.ofChange fnExactLocalsSpec)) fnExactLocalsCard

/-- THE SECOND FORM's CARD OF 'laws.FnExactCheck'. -/
def fnExactCheckUptoCard : Claim7 := { stood := { row := fnExactCheckUptoRow, standIns := [], harness := (true, "824650cfc8b4d858e706105d789c38e1d556a79bd043e5d39783afe0af1954fb"), looks := false }, kinds := [], alts := [], laidByText := true, laidKinds := [.data], laidTests := true, laidLooks := .later }
def FnExactCheckUptoCardSaid : Prop := Claim7.holds Tryd.pinned (.plain (OpenSpec.upto fnExactCheckSpec)) fnExactCheckUptoCard

/-- THE SECOND FORM's CARD OF 'laws.FnExactBinds'. -/
def fnExactBindsUptoCard : Claim7 := { stood := { row := fnExactBindsUptoRow, standIns := [], harness := (true, "824650cfc8b4d858e706105d789c38e1d556a79bd043e5d39783afe0af1954fb"), looks := false }, kinds := [], alts := [], laidByText := true, laidKinds := [.data], laidTests := true, laidLooks := .later }
def FnExactBindsUptoCardSaid : Prop := Claim7.holds Tryd.pinned (.plain (OpenSpec.upto fnExactBindsSpec)) fnExactBindsUptoCard

/-- THE SECOND FORM's CARD OF 'laws.FnExactRename'. -/
def fnExactRenameUptoCard : Claim7 := { stood := { row := fnExactRenameUptoRow, standIns := [], harness := (true, "824650cfc8b4d858e706105d789c38e1d556a79bd043e5d39783afe0af1954fb"), looks := false }, kinds := [], alts := [], laidByText := true, laidKinds := [.data], laidTests := true, laidLooks := .later }
def FnExactRenameUptoCardSaid : Prop := Claim7.holds Tryd.pinned (.plain (OpenSpec.upto fnExactRenameSpec)) fnExactRenameUptoCard

/-- THE SECOND FORM's CARD OF 'laws.FnExactLocals'. -/
def fnExactLocalsUptoCard : Claim7 := { stood := { row := fnExactLocalsUptoRow, standIns := [], harness := (true, "824650cfc8b4d858e706105d789c38e1d556a79bd043e5d39783afe0af1954fb"), looks := false }, kinds := [], alts := [], laidByText := true, laidKinds := [.data], laidTests := true, laidLooks := .later }
def FnExactLocalsUptoCardSaid : Prop := Claim7.holds Tryd.pinned (.plain (OpenSpec.upto fnExactLocalsSpec)) fnExactLocalsUptoCard
end Rows
end Go.Proofs.YtmklgiononbmmaaDoor
