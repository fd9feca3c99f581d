/-
  DERIVED. GIVEN WITH THE SEED: THE CARDS: each row of YtbhaebemaggjfaaDoorRows.lean that lists a variable, with what it lists TIED to the program's text (the seventh form; the later family's looks); each row that meets fmt, with fmt's text TOLD by the authors' own Lean function (tested against real Go, not proved from fmt's source: count such statements apart). THE CARD IS WHAT COUNTS. Prove the row's statement (the work); the ties are given (YtbhaebemaggjfaaDoorTie.lean); close each card by the builder's one call (the guide's Derived/Test/ToyasCard.lean, 'card_holds'). Laid BY PROGRAM, IN A SANDBOX (cutbox-door.mjs). By AI agents, Wed Nov 11 2026. No macro, syntax, notation, axiom, sorry.
-/
import Derived.Test.YtbhaebemaggjfaaDoorRows
import GoSem.ClaimSeven
namespace Go.Proofs.YtbhaebemaggjfaaDoor
namespace Rows

/-- THE TIED CARD OF 'rosettelaw06.ShuffleNumbers'. -/
def shuffleNumbersCard : Claim7 := { stood := { row := shuffleNumbersRow, standIns := [], harness := (true, "8f3a5d0f7a8693ee485a771899e43e48bce01568e899d3545bb4cc8826e6cc72"), looks := false }, kinds := [], alts := [], laidByText := true, laidKinds := [.data], laidTests := true, laidLooks := .later }
def ShuffleNumbersCardSaid : Prop := Claim7.holds Tryd.pinned (.plain (OpenSpec.ofChange shuffleNumbersSpec)) shuffleNumbersCard

/-- THE SECOND FORM's CARD OF 'rosettelaw06.ShuffleNumbers'. -/
def shuffleNumbersUptoCard : Claim7 := { stood := { row := shuffleNumbersUptoRow, standIns := [], harness := (true, "8f3a5d0f7a8693ee485a771899e43e48bce01568e899d3545bb4cc8826e6cc72"), looks := false }, kinds := [], alts := [], laidByText := true, laidKinds := [.data], laidTests := true, laidLooks := .later }
def ShuffleNumbersUptoCardSaid : Prop := Claim7.holds Tryd.pinned (.plain (OpenSpec.upto shuffleNumbersSpec)) shuffleNumbersUptoCard
end Rows
end Go.Proofs.YtbhaebemaggjfaaDoor
