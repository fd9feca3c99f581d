/-
  DERIVED. GIVEN WITH THE SEED: THE CARDS: each row of YtebbhmlhmdkigaaGreatDoorRows.lean that lists a variable, with what it lists TIED to the program's text (the seventh form; the later family's looks); each row that meets fmt, with fmt's text TOLD by the authors' own Lean function (tested against real Go, not proved from fmt's source: count such statements apart). THE CARD IS WHAT COUNTS. Prove the row's statement (the work); the ties are given (YtebbhmlhmdkigaaGreatDoorTie.lean); close each card by the builder's one call (the guide's Derived/Test/ToyasCard.lean, 'card_holds'). Laid BY PROGRAM, IN A SANDBOX (cutbox-door.mjs). By AI agents, Wed Nov 11 2026. No macro, syntax, notation, axiom, sorry.
-/
import Derived.Test.YtebbhmlhmdkigaaGreatDoorRows
import GoSem.ClaimSeven
namespace Go.Proofs.YtebbhmlhmdkigaaGreatDoor
namespace Rows

/-- THE TIED CARD OF 'rosettelaw18.RootSquares'. -/
def rootSquaresCard : Claim7 := { stood := { row := rootSquaresRow, standIns := [], harness := (true, "429556ab53e5475b92d8f92d1d88e19cdc852ca7e6221800accae0465fb66b47"), looks := false }, kinds := [], alts := [], laidByText := true, laidKinds := [.data], laidTests := true, laidLooks := .later }
def RootSquaresCardSaid : Prop := Claim7.holds Tryz.pinned (.plain (OpenSpec.ofChange rootSquaresSpec)) rootSquaresCard

/-- THE TIED CARD OF 'rosettelaw18.RootOf'. -/
def rootOfCard : Claim7 := { stood := { row := rootOfRow, standIns := [], harness := (true, "429556ab53e5475b92d8f92d1d88e19cdc852ca7e6221800accae0465fb66b47"), looks := false }, kinds := [], alts := [], laidByText := true, laidKinds := [.data], laidTests := true, laidLooks := .later }
def RootOfCardSaid : Prop := Claim7.holds Tryz.pinned (.plain (OpenSpec.ofChange rootOfSpec)) rootOfCard

/-- THE SECOND FORM's CARD OF 'rosettelaw18.RootSquares'. -/
def rootSquaresUptoCard : Claim7 := { stood := { row := rootSquaresUptoRow, standIns := [], harness := (true, "429556ab53e5475b92d8f92d1d88e19cdc852ca7e6221800accae0465fb66b47"), looks := false }, kinds := [], alts := [], laidByText := true, laidKinds := [.data], laidTests := true, laidLooks := .later }
def RootSquaresUptoCardSaid : Prop := Claim7.holds Tryz.pinned (.plain (OpenSpec.upto rootSquaresSpec)) rootSquaresUptoCard

/-- THE SECOND FORM's CARD OF 'rosettelaw18.RootOf'. -/
def rootOfUptoCard : Claim7 := { stood := { row := rootOfUptoRow, standIns := [], harness := (true, "429556ab53e5475b92d8f92d1d88e19cdc852ca7e6221800accae0465fb66b47"), looks := false }, kinds := [], alts := [], laidByText := true, laidKinds := [.data], laidTests := true, laidLooks := .later }
def RootOfUptoCardSaid : Prop := Claim7.holds Tryz.pinned (.plain (OpenSpec.upto rootOfSpec)) rootOfUptoCard
end Rows
end Go.Proofs.YtebbhmlhmdkigaaGreatDoor
