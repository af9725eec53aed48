/-
  DERIVED. GIVEN WITH THE SEED: THE CARDS: each row of YtniadajcdldfkaaDoorRows.lean that lists a variable, with what it lists TIED to the program's text (the seventh form; the later family's looks); each row that meets fmt, with fmt's text TOLD by the authors' own Lean function (tested against real Go, not proved from fmt's source: count such statements apart). THE CARD IS WHAT COUNTS. Prove the row's statement (the work); the ties are given (YtniadajcdldfkaaDoorTie.lean); close each card by the builder's one call (the guide's Derived/Test/ToyasCard.lean, 'card_holds'). Laid BY PROGRAM, IN A SANDBOX (cutbox-door.mjs). By AI agents, Wed Nov 11 2026. No macro, syntax, notation, axiom, sorry.
-/
import Derived.Test.YtniadajcdldfkaaDoorRows
import GoSem.ClaimSeven
namespace Go.Proofs.YtniadajcdldfkaaDoor
namespace Rows

/-- THE TIED CARD OF 'pouchlaw.Rows'. -/
def rowsCard : Claim7 := { stood := { row := rowsRow, standIns := [], harness := (true, "b1a1ea906ed806efc5e75ea48f954c713fdd3c38c8d9826bf179c36cd86ad80f"), looks := true }, kinds := [], alts := [], laidByText := true, laidKinds := [.handle, .sentinel, .sentinel, .sentinel, .sentinel, .sentinel, .sentinel, .sentinel, .sentinel, .sentinel, .sentinel, .sentinel, .sentinel], laidTests := true, laidLooks := .later }
def RowsCardSaid : Prop := Claim7.holds Tryd.pinned (.plain (OpenSpec.ofChange rowsSpec)) rowsCard

/-- THE SECOND FORM's CARD OF 'pouchlaw.Rows'. -/
def rowsUptoCard : Claim7 := { stood := { row := rowsUptoRow, standIns := [], harness := (true, "b1a1ea906ed806efc5e75ea48f954c713fdd3c38c8d9826bf179c36cd86ad80f"), looks := true }, kinds := [], alts := [], laidByText := true, laidKinds := [.handle, .sentinel, .sentinel, .sentinel, .sentinel, .sentinel, .sentinel, .sentinel, .sentinel, .sentinel, .sentinel, .sentinel, .sentinel], laidTests := true, laidLooks := .later }
def RowsUptoCardSaid : Prop := Claim7.holds Tryd.pinned (.plain (OpenSpec.upto rowsSpec)) rowsUptoCard
end Rows
end Go.Proofs.YtniadajcdldfkaaDoor
