/-
  DERIVED. GIVEN WITH THE SEED: THE CARDS: each row of YtnmdnhmfmahjaaaGreatDoorRows.lean that lists a variable, with what it lists TIED to the program's text (the seventh form; the later family's looks); each row that meets fmt, with fmt's text TOLD by the authors' own Lean function (tested against real Go, not proved from fmt's source: count such statements apart). THE CARD IS WHAT COUNTS. Prove the row's statement (the work); the ties are given (YtnmdnhmfmahjaaaGreatDoorTie.lean); close each card by the builder's one call (the guide's Derived/Test/ToyasCard.lean, 'card_holds'). Laid BY PROGRAM, IN A SANDBOX (cutbox-door.mjs). By AI agents, Wed Nov 11 2026. No macro, syntax, notation, axiom, sorry.
-/
import Derived.Test.YtnmdnhmfmahjaaaGreatDoorRows
import GoSem.ClaimSeven
namespace Go.Proofs.YtnmdnhmfmahjaaaGreatDoor
namespace Rows

/-- THE TIED CARD OF 'rosettelaw03.DyadCuts'. -/
def dyadCutsCard : Claim7 := { stood := { row := dyadCutsRow, standIns := [], harness := (true, "ac184168c479a454b0106f7f0e206cd17fc1c4c32982a7570107eed88573b8b3"), looks := false }, kinds := [], alts := [], laidByText := true, laidKinds := [.data], laidTests := true, laidLooks := .later }
def DyadCutsCardSaid : Prop := Claim7.holds Tryz.pinned (.plain (OpenSpec.ofChange dyadCutsSpec)) dyadCutsCard

/-- THE TIED CARD OF 'rosettelaw03.DyadNumbers'. -/
def dyadNumbersCard : Claim7 := { stood := { row := dyadNumbersRow, standIns := [], harness := (true, "ac184168c479a454b0106f7f0e206cd17fc1c4c32982a7570107eed88573b8b3"), looks := false }, kinds := [], alts := [], laidByText := true, laidKinds := [.data], laidTests := true, laidLooks := .later }
def DyadNumbersCardSaid : Prop := Claim7.holds Tryz.pinned (.plain (OpenSpec.ofChange dyadNumbersSpec)) dyadNumbersCard

/-- THE SECOND FORM's CARD OF 'rosettelaw03.DyadCuts'. -/
def dyadCutsUptoCard : Claim7 := { stood := { row := dyadCutsUptoRow, standIns := [], harness := (true, "ac184168c479a454b0106f7f0e206cd17fc1c4c32982a7570107eed88573b8b3"), looks := false }, kinds := [], alts := [], laidByText := true, laidKinds := [.data], laidTests := true, laidLooks := .later }
def DyadCutsUptoCardSaid : Prop := Claim7.holds Tryz.pinned (.plain (OpenSpec.upto dyadCutsSpec)) dyadCutsUptoCard

/-- THE SECOND FORM's CARD OF 'rosettelaw03.DyadNumbers'. -/
def dyadNumbersUptoCard : Claim7 := { stood := { row := dyadNumbersUptoRow, standIns := [], harness := (true, "ac184168c479a454b0106f7f0e206cd17fc1c4c32982a7570107eed88573b8b3"), looks := false }, kinds := [], alts := [], laidByText := true, laidKinds := [.data], laidTests := true, laidLooks := .later }
def DyadNumbersUptoCardSaid : Prop := Claim7.holds Tryz.pinned (.plain (OpenSpec.upto dyadNumbersSpec)) dyadNumbersUptoCard
end Rows
end Go.Proofs.YtnmdnhmfmahjaaaGreatDoor
