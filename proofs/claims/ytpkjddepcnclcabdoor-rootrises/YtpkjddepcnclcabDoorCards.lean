/-
  DERIVED. GIVEN WITH THE SEED: THE CARDS: each row of YtpkjddepcnclcabDoorRows.lean that lists a variable, with what it lists TIED to the program's text (the seventh form; the later family's looks); each row that meets fmt, with fmt's text TOLD by the authors' own Lean function (tested against real Go, not proved from fmt's source: count such statements apart). THE CARD IS WHAT COUNTS. Prove the row's statement (the work); the ties are given (YtpkjddepcnclcabDoorTie.lean); close each card by the builder's one call (the guide's Derived/Test/ToyasCard.lean, 'card_holds'). Laid BY PROGRAM, IN A SANDBOX (cutbox-door.mjs). By AI agents, Wed Nov 11 2026. No macro, syntax, notation, axiom, sorry.
-/
import Derived.Test.YtpkjddepcnclcabDoorRows
import GoSem.ClaimSeven
namespace Go.Proofs.YtpkjddepcnclcabDoor
namespace Rows

/-- THE TIED CARD OF 'rosettelaw18.RootPowers'. -/
def rootPowersCard : Claim7 := { stood := { row := rootPowersRow, standIns := [], harness := (true, "cad09e472c1fa03bd489103fe7511b6d7f58cf5263185719002fc35e6eb60368"), looks := false }, kinds := [], alts := [], laidByText := true, laidKinds := [.data], laidTests := true, laidLooks := .later }
def RootPowersCardSaid : Prop := Claim7.holds Tryd.pinned (.plain (OpenSpec.ofChange rootPowersSpec)) rootPowersCard

/-- THE TIED CARD OF 'rosettelaw18.RootRises'. -/
def rootRisesCard : Claim7 := { stood := { row := rootRisesRow, standIns := [], harness := (true, "cad09e472c1fa03bd489103fe7511b6d7f58cf5263185719002fc35e6eb60368"), looks := false }, kinds := [], alts := [], laidByText := true, laidKinds := [.data], laidTests := true, laidLooks := .later }
def RootRisesCardSaid : Prop := Claim7.holds Tryd.pinned (.plain (OpenSpec.ofChange rootRisesSpec)) rootRisesCard

/-- THE SECOND FORM's CARD OF 'rosettelaw18.RootPowers'. -/
def rootPowersUptoCard : Claim7 := { stood := { row := rootPowersUptoRow, standIns := [], harness := (true, "cad09e472c1fa03bd489103fe7511b6d7f58cf5263185719002fc35e6eb60368"), looks := false }, kinds := [], alts := [], laidByText := true, laidKinds := [.data], laidTests := true, laidLooks := .later }
def RootPowersUptoCardSaid : Prop := Claim7.holds Tryd.pinned (.plain (OpenSpec.upto rootPowersSpec)) rootPowersUptoCard

/-- THE SECOND FORM's CARD OF 'rosettelaw18.RootRises'. -/
def rootRisesUptoCard : Claim7 := { stood := { row := rootRisesUptoRow, standIns := [], harness := (true, "cad09e472c1fa03bd489103fe7511b6d7f58cf5263185719002fc35e6eb60368"), looks := false }, kinds := [], alts := [], laidByText := true, laidKinds := [.data], laidTests := true, laidLooks := .later }
def RootRisesUptoCardSaid : Prop := Claim7.holds Tryd.pinned (.plain (OpenSpec.upto rootRisesSpec)) rootRisesUptoCard
end Rows
end Go.Proofs.YtpkjddepcnclcabDoor
