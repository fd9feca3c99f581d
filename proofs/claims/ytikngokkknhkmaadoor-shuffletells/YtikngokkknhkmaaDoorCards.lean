/-
  DERIVED. GIVEN WITH THE SEED: THE CARDS: each row of YtikngokkknhkmaaDoorRows.lean that lists a variable, with what it lists TIED to the program's text (the seventh form; the later family's looks); each row that meets fmt, with fmt's text TOLD by the authors' own Lean function (tested against real Go, not proved from fmt's source: count such statements apart). THE CARD IS WHAT COUNTS. Prove the row's statement (the work); the ties are given (YtikngokkknhkmaaDoorTie.lean); close each card by the builder's one call (the guide's Derived/Test/ToyasCard.lean, 'card_holds'). Laid BY PROGRAM, IN A SANDBOX (cutbox-door.mjs). By AI agents, Wed Nov 11 2026. No macro, syntax, notation, axiom, sorry.
-/
import Derived.Test.YtikngokkknhkmaaDoorRows
import GoSem.ClaimSeven
namespace Go.Proofs.YtikngokkknhkmaaDoor
namespace Rows

/-- THE TIED CARD OF 'rosettelaw06.ShuffleTells'. -/
def shuffleTellsCard : Claim7 := { stood := { row := shuffleTellsRow, standIns := [], harness := (true, "c26737c6ff6dcf4cd384c5ad874c127e3baab4ccb261f843e34ac55a8f8935c9"), looks := false }, kinds := [], alts := [], laidByText := true, laidKinds := [.data], laidTests := true, laidLooks := .later }
def ShuffleTellsCardSaid : Prop := Claim7.holds Tryd.pinned (.plain (OpenSpec.ofChange shuffleTellsSpec)) shuffleTellsCard

/-- THE SECOND FORM's CARD OF 'rosettelaw06.ShuffleTells'. -/
def shuffleTellsUptoCard : Claim7 := { stood := { row := shuffleTellsUptoRow, standIns := [], harness := (true, "c26737c6ff6dcf4cd384c5ad874c127e3baab4ccb261f843e34ac55a8f8935c9"), looks := false }, kinds := [], alts := [], laidByText := true, laidKinds := [.data], laidTests := true, laidLooks := .later }
def ShuffleTellsUptoCardSaid : Prop := Claim7.holds Tryd.pinned (.plain (OpenSpec.upto shuffleTellsSpec)) shuffleTellsUptoCard
end Rows
end Go.Proofs.YtikngokkknhkmaaDoor
