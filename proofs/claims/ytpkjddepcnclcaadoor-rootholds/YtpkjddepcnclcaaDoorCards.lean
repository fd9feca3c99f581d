/-
  DERIVED. GIVEN WITH THE SEED: THE CARDS: each row of YtpkjddepcnclcaaDoorRows.lean that lists a variable, with what it lists TIED to the program's text (the seventh form; the later family's looks); each row that meets fmt, with fmt's text TOLD by the authors' own Lean function (tested against real Go, not proved from fmt's source: count such statements apart). THE CARD IS WHAT COUNTS. Prove the row's statement (the work); the ties are given (YtpkjddepcnclcaaDoorTie.lean); close each card by the builder's one call (the guide's Derived/Test/ToyasCard.lean, 'card_holds'). Laid BY PROGRAM, IN A SANDBOX (cutbox-door.mjs). By AI agents, Wed Nov 11 2026. No macro, syntax, notation, axiom, sorry.
-/
import Derived.Test.YtpkjddepcnclcaaDoorRows
import GoSem.ClaimSeven
namespace Go.Proofs.YtpkjddepcnclcaaDoor
namespace Rows

/-- THE TIED CARD OF 'rosettelaw18.RootHolds'. -/
def rootHoldsCard : Claim7 := { stood := { row := rootHoldsRow, standIns := [], harness := (true, "c9e0e6a0401bb06f5b7543c2c837d5d58e56241a959a9911d64634cad7277c49"), looks := false }, kinds := [], alts := [], laidByText := true, laidKinds := [.data], laidTests := true, laidLooks := .later }
def RootHoldsCardSaid : Prop := Claim7.holds Tryd.pinned (.plain (OpenSpec.ofChange rootHoldsSpec)) rootHoldsCard

/-- THE SECOND FORM's CARD OF 'rosettelaw18.RootHolds'. -/
def rootHoldsUptoCard : Claim7 := { stood := { row := rootHoldsUptoRow, standIns := [], harness := (true, "c9e0e6a0401bb06f5b7543c2c837d5d58e56241a959a9911d64634cad7277c49"), looks := false }, kinds := [], alts := [], laidByText := true, laidKinds := [.data], laidTests := true, laidLooks := .later }
def RootHoldsUptoCardSaid : Prop := Claim7.holds Tryd.pinned (.plain (OpenSpec.upto rootHoldsSpec)) rootHoldsUptoCard
end Rows
end Go.Proofs.YtpkjddepcnclcaaDoor
