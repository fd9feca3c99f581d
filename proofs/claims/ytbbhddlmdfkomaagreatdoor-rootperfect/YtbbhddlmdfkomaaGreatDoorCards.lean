/-
  DERIVED. GIVEN WITH THE SEED: THE CARDS: each row of YtbbhddlmdfkomaaGreatDoorRows.lean that lists a variable, with what it lists TIED to the program's text (the seventh form; the later family's looks); each row that meets fmt, with fmt's text TOLD by the authors' own Lean function (tested against real Go, not proved from fmt's source: count such statements apart). THE CARD IS WHAT COUNTS. Prove the row's statement (the work); the ties are given (YtbbhddlmdfkomaaGreatDoorTie.lean); close each card by the builder's one call (the guide's Derived/Test/ToyasCard.lean, 'card_holds'). Laid BY PROGRAM, IN A SANDBOX (cutbox-door.mjs). By AI agents, Wed Nov 11 2026. No macro, syntax, notation, axiom, sorry.
-/
import Derived.Test.YtbbhddlmdfkomaaGreatDoorRows
import GoSem.ClaimSeven
namespace Go.Proofs.YtbbhddlmdfkomaaGreatDoor
namespace Rows

/-- THE TIED CARD OF 'rosettelaw18.RootPerfect'. -/
def rootPerfectCard : Claim7 := { stood := { row := rootPerfectRow, standIns := [], harness := (true, "de02fe047a4c93d47dc5ea6bd1289402146d2f1cbcc5ca87bc49e881994235a8"), looks := false }, kinds := [], alts := [], laidByText := true, laidKinds := [.data], laidTests := true, laidLooks := .later }
def RootPerfectCardSaid : Prop := Claim7.holds Tryz.pinned (.plain (OpenSpec.ofChange rootPerfectSpec)) rootPerfectCard

/-- THE TIED CARD OF 'rosettelaw18.RootKeeps'. -/
def rootKeepsCard : Claim7 := { stood := { row := rootKeepsRow, standIns := [], harness := (true, "de02fe047a4c93d47dc5ea6bd1289402146d2f1cbcc5ca87bc49e881994235a8"), looks := false }, kinds := [], alts := [], laidByText := true, laidKinds := [.data], laidTests := true, laidLooks := .later }
def RootKeepsCardSaid : Prop := Claim7.holds Tryz.pinned (.plain (OpenSpec.ofChange rootKeepsSpec)) rootKeepsCard

/-- THE TIED CARD OF 'rosettelaw18.RootNumbers'. -/
def rootNumbersCard : Claim7 := { stood := { row := rootNumbersRow, standIns := [], harness := (true, "de02fe047a4c93d47dc5ea6bd1289402146d2f1cbcc5ca87bc49e881994235a8"), looks := false }, kinds := [], alts := [], laidByText := true, laidKinds := [.data], laidTests := true, laidLooks := .later }
def RootNumbersCardSaid : Prop := Claim7.holds Tryz.pinned (.plain (OpenSpec.ofChange rootNumbersSpec)) rootNumbersCard

/-- THE SECOND FORM's CARD OF 'rosettelaw18.RootPerfect'. -/
def rootPerfectUptoCard : Claim7 := { stood := { row := rootPerfectUptoRow, standIns := [], harness := (true, "de02fe047a4c93d47dc5ea6bd1289402146d2f1cbcc5ca87bc49e881994235a8"), looks := false }, kinds := [], alts := [], laidByText := true, laidKinds := [.data], laidTests := true, laidLooks := .later }
def RootPerfectUptoCardSaid : Prop := Claim7.holds Tryz.pinned (.plain (OpenSpec.upto rootPerfectSpec)) rootPerfectUptoCard

/-- THE SECOND FORM's CARD OF 'rosettelaw18.RootKeeps'. -/
def rootKeepsUptoCard : Claim7 := { stood := { row := rootKeepsUptoRow, standIns := [], harness := (true, "de02fe047a4c93d47dc5ea6bd1289402146d2f1cbcc5ca87bc49e881994235a8"), looks := false }, kinds := [], alts := [], laidByText := true, laidKinds := [.data], laidTests := true, laidLooks := .later }
def RootKeepsUptoCardSaid : Prop := Claim7.holds Tryz.pinned (.plain (OpenSpec.upto rootKeepsSpec)) rootKeepsUptoCard

/-- THE SECOND FORM's CARD OF 'rosettelaw18.RootNumbers'. -/
def rootNumbersUptoCard : Claim7 := { stood := { row := rootNumbersUptoRow, standIns := [], harness := (true, "de02fe047a4c93d47dc5ea6bd1289402146d2f1cbcc5ca87bc49e881994235a8"), looks := false }, kinds := [], alts := [], laidByText := true, laidKinds := [.data], laidTests := true, laidLooks := .later }
def RootNumbersUptoCardSaid : Prop := Claim7.holds Tryz.pinned (.plain (OpenSpec.upto rootNumbersSpec)) rootNumbersUptoCard
end Rows
end Go.Proofs.YtbbhddlmdfkomaaGreatDoor
