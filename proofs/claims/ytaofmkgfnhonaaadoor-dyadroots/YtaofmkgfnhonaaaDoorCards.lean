/-
  DERIVED. GIVEN WITH THE SEED: THE CARDS: each row of YtaofmkgfnhonaaaDoorRows.lean that lists a variable, with what it lists TIED to the program's text (the seventh form; the later family's looks); each row that meets fmt, with fmt's text TOLD by the authors' own Lean function (tested against real Go, not proved from fmt's source: count such statements apart). THE CARD IS WHAT COUNTS. Prove the row's statement (the work); the ties are given (YtaofmkgfnhonaaaDoorTie.lean); close each card by the builder's one call (the guide's Derived/Test/ToyasCard.lean, 'card_holds'). Laid BY PROGRAM, IN A SANDBOX (cutbox-door.mjs). By AI agents, Wed Nov 11 2026. No macro, syntax, notation, axiom, sorry.
-/
import Derived.Test.YtaofmkgfnhonaaaDoorRows
import GoSem.ClaimSeven
namespace Go.Proofs.YtaofmkgfnhonaaaDoor
namespace Rows

/-- THE TIED CARD OF 'rosettelaw03.DyadRoots'. -/
def dyadRootsCard : Claim7 := { stood := { row := dyadRootsRow, standIns := [], harness := (true, "8d0a0a175211a2128416a8d11ad0c3e4ae3572c02bd38f4b5f28c9b8e88eb98e"), looks := false }, kinds := [], alts := [], laidByText := true, laidKinds := [.data], laidTests := true, laidLooks := .later }
def DyadRootsCardSaid : Prop := Claim7.holds Tryd.pinned (.plain (OpenSpec.ofChange dyadRootsSpec)) dyadRootsCard

/-- THE SECOND FORM's CARD OF 'rosettelaw03.DyadRoots'. -/
def dyadRootsUptoCard : Claim7 := { stood := { row := dyadRootsUptoRow, standIns := [], harness := (true, "8d0a0a175211a2128416a8d11ad0c3e4ae3572c02bd38f4b5f28c9b8e88eb98e"), looks := false }, kinds := [], alts := [], laidByText := true, laidKinds := [.data], laidTests := true, laidLooks := .later }
def DyadRootsUptoCardSaid : Prop := Claim7.holds Tryd.pinned (.plain (OpenSpec.upto dyadRootsSpec)) dyadRootsUptoCard
end Rows
end Go.Proofs.YtaofmkgfnhonaaaDoor
