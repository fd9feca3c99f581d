/-
  DERIVED. GIVEN WITH THE SEED: THE CARDS: each row of YtaiflkpanankcaaDoorRows.lean that lists a variable, with what it lists TIED to the program's text (the seventh form; the later family's looks); each row that meets fmt, with fmt's text TOLD by the authors' own Lean function (tested against real Go, not proved from fmt's source: count such statements apart). THE CARD IS WHAT COUNTS. Prove the row's statement (the work); the ties are given (YtaiflkpanankcaaDoorTie.lean); close each card by the builder's one call (the guide's Derived/Test/ToyasCard.lean, 'card_holds'). Laid BY PROGRAM, IN A SANDBOX (cutbox-door.mjs). By AI agents, Wed Nov 11 2026. No macro, syntax, notation, axiom, sorry.
-/
import Derived.Test.YtaiflkpanankcaaDoorRows
import GoSem.ClaimSeven
namespace Go.Proofs.YtaiflkpanankcaaDoor
namespace Rows

/-- THE TIED CARD OF 'rosettelaw03.DyadField'. -/
def dyadFieldCard : Claim7 := { stood := { row := dyadFieldRow, standIns := [], harness := (true, "e699f36c4cc34202d1361c66eddd8decd616d2609677208ebb1eaa9555839665"), looks := false }, kinds := [], alts := [], laidByText := true, laidKinds := [.data], laidTests := true, laidLooks := .later }
def DyadFieldCardSaid : Prop := Claim7.holds Tryd.pinned (.plain (OpenSpec.ofChange dyadFieldSpec)) dyadFieldCard

/-- THE TIED CARD OF 'rosettelaw03.DyadSides'. -/
def dyadSidesCard : Claim7 := { stood := { row := dyadSidesRow, standIns := [], harness := (true, "e699f36c4cc34202d1361c66eddd8decd616d2609677208ebb1eaa9555839665"), looks := false }, kinds := [], alts := [], laidByText := true, laidKinds := [.data], laidTests := true, laidLooks := .later }
def DyadSidesCardSaid : Prop := Claim7.holds Tryd.pinned (.plain (OpenSpec.ofChange dyadSidesSpec)) dyadSidesCard

/-- THE TIED CARD OF 'rosettelaw03.DyadRoots'. -/
def dyadRootsCard : Claim7 := { stood := { row := dyadRootsRow, standIns := [], harness := (true, "e699f36c4cc34202d1361c66eddd8decd616d2609677208ebb1eaa9555839665"), looks := false }, kinds := [], alts := [], laidByText := true, laidKinds := [.data], laidTests := true, laidLooks := .later }
def DyadRootsCardSaid : Prop := Claim7.holds Tryd.pinned (.plain (OpenSpec.ofChange dyadRootsSpec)) dyadRootsCard

/-- THE TIED CARD OF 'rosettelaw03.DyadFloats'. -/
def dyadFloatsCard : Claim7 := { stood := { row := dyadFloatsRow, standIns := [], harness := (true, "e699f36c4cc34202d1361c66eddd8decd616d2609677208ebb1eaa9555839665"), looks := false }, kinds := [], alts := [], laidByText := true, laidKinds := [.data], laidTests := true, laidLooks := .later }
def DyadFloatsCardSaid : Prop := Claim7.holds Tryd.pinned (.plain (OpenSpec.ofChange dyadFloatsSpec)) dyadFloatsCard

/-- THE SECOND FORM's CARD OF 'rosettelaw03.DyadField'. -/
def dyadFieldUptoCard : Claim7 := { stood := { row := dyadFieldUptoRow, standIns := [], harness := (true, "e699f36c4cc34202d1361c66eddd8decd616d2609677208ebb1eaa9555839665"), looks := false }, kinds := [], alts := [], laidByText := true, laidKinds := [.data], laidTests := true, laidLooks := .later }
def DyadFieldUptoCardSaid : Prop := Claim7.holds Tryd.pinned (.plain (OpenSpec.upto dyadFieldSpec)) dyadFieldUptoCard

/-- THE SECOND FORM's CARD OF 'rosettelaw03.DyadSides'. -/
def dyadSidesUptoCard : Claim7 := { stood := { row := dyadSidesUptoRow, standIns := [], harness := (true, "e699f36c4cc34202d1361c66eddd8decd616d2609677208ebb1eaa9555839665"), looks := false }, kinds := [], alts := [], laidByText := true, laidKinds := [.data], laidTests := true, laidLooks := .later }
def DyadSidesUptoCardSaid : Prop := Claim7.holds Tryd.pinned (.plain (OpenSpec.upto dyadSidesSpec)) dyadSidesUptoCard

/-- THE SECOND FORM's CARD OF 'rosettelaw03.DyadRoots'. -/
def dyadRootsUptoCard : Claim7 := { stood := { row := dyadRootsUptoRow, standIns := [], harness := (true, "e699f36c4cc34202d1361c66eddd8decd616d2609677208ebb1eaa9555839665"), looks := false }, kinds := [], alts := [], laidByText := true, laidKinds := [.data], laidTests := true, laidLooks := .later }
def DyadRootsUptoCardSaid : Prop := Claim7.holds Tryd.pinned (.plain (OpenSpec.upto dyadRootsSpec)) dyadRootsUptoCard

/-- THE SECOND FORM's CARD OF 'rosettelaw03.DyadFloats'. -/
def dyadFloatsUptoCard : Claim7 := { stood := { row := dyadFloatsUptoRow, standIns := [], harness := (true, "e699f36c4cc34202d1361c66eddd8decd616d2609677208ebb1eaa9555839665"), looks := false }, kinds := [], alts := [], laidByText := true, laidKinds := [.data], laidTests := true, laidLooks := .later }
def DyadFloatsUptoCardSaid : Prop := Claim7.holds Tryd.pinned (.plain (OpenSpec.upto dyadFloatsSpec)) dyadFloatsUptoCard
end Rows
end Go.Proofs.YtaiflkpanankcaaDoor
