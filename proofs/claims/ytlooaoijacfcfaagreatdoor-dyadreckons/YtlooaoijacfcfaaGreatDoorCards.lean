/-
  DERIVED. GIVEN WITH THE SEED: THE CARDS: each row of YtlooaoijacfcfaaGreatDoorRows.lean that lists a variable, with what it lists TIED to the program's text (the seventh form; the later family's looks); each row that meets fmt, with fmt's text TOLD by the authors' own Lean function (tested against real Go, not proved from fmt's source: count such statements apart). THE CARD IS WHAT COUNTS. Prove the row's statement (the work); the ties are given (YtlooaoijacfcfaaGreatDoorTie.lean); close each card by the builder's one call (the guide's Derived/Test/ToyasCard.lean, 'card_holds'). Laid BY PROGRAM, IN A SANDBOX (cutbox-door.mjs). By AI agents, Wed Nov 11 2026. No macro, syntax, notation, axiom, sorry.
-/
import Derived.Test.YtlooaoijacfcfaaGreatDoorRows
import GoSem.ClaimSeven
namespace Go.Proofs.YtlooaoijacfcfaaGreatDoor
namespace Rows

/-- THE TIED CARD OF 'rosettelaw03.DyadReckons'. -/
def dyadReckonsCard : Claim7 := { stood := { row := dyadReckonsRow, standIns := [], harness := (true, "345c3bca6417586ee96cd5cb0e8d8e86c859613a8df1b08442596aa49657ad9e"), looks := false }, kinds := [], alts := [], laidByText := true, laidKinds := [.data], laidTests := true, laidLooks := .later }
def DyadReckonsCardSaid : Prop := Claim7.holds Tryz.pinned (.plain (OpenSpec.ofChange dyadReckonsSpec)) dyadReckonsCard

/-- THE SECOND FORM's CARD OF 'rosettelaw03.DyadReckons'. -/
def dyadReckonsUptoCard : Claim7 := { stood := { row := dyadReckonsUptoRow, standIns := [], harness := (true, "345c3bca6417586ee96cd5cb0e8d8e86c859613a8df1b08442596aa49657ad9e"), looks := false }, kinds := [], alts := [], laidByText := true, laidKinds := [.data], laidTests := true, laidLooks := .later }
def DyadReckonsUptoCardSaid : Prop := Claim7.holds Tryz.pinned (.plain (OpenSpec.upto dyadReckonsSpec)) dyadReckonsUptoCard
end Rows
end Go.Proofs.YtlooaoijacfcfaaGreatDoor
