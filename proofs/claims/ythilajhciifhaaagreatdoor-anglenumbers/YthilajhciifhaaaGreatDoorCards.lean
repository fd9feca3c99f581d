/-
  DERIVED. GIVEN WITH THE SEED: THE CARDS: each row of YthilajhciifhaaaGreatDoorRows.lean that lists a variable, with what it lists TIED to the program's text (the seventh form; the later family's looks); each row that meets fmt, with fmt's text TOLD by the authors' own Lean function (tested against real Go, not proved from fmt's source: count such statements apart). THE CARD IS WHAT COUNTS. Prove the row's statement (the work); the ties are given (YthilajhciifhaaaGreatDoorTie.lean); close each card by the builder's one call (the guide's Derived/Test/ToyasCard.lean, 'card_holds'). Laid BY PROGRAM, IN A SANDBOX (cutbox-door.mjs). By AI agents, Wed Nov 11 2026. No macro, syntax, notation, axiom, sorry.
-/
import Derived.Test.YthilajhciifhaaaGreatDoorRows
import GoSem.ClaimSeven
namespace Go.Proofs.YthilajhciifhaaaGreatDoor
namespace Rows

/-- THE TIED CARD OF 'rosettelaw03.DyadKeeps'. -/
def dyadKeepsCard : Claim7 := { stood := { row := dyadKeepsRow, standIns := [], harness := (true, "f45b884e16d0a9a78cfa869b5e3e92e6324090234ffb1d00175d80d7ff089e6a"), looks := false }, kinds := [], alts := [], laidByText := true, laidKinds := [.data], laidTests := true, laidLooks := .later }
def DyadKeepsCardSaid : Prop := Claim7.holds Tryz.pinned (.plain (OpenSpec.ofChange dyadKeepsSpec)) dyadKeepsCard

/-- THE TIED CARD OF 'rosettelaw04.AngleNumbers'. -/
def angleNumbersCard : Claim7 := { stood := { row := angleNumbersRow, standIns := [], harness := (true, "f45b884e16d0a9a78cfa869b5e3e92e6324090234ffb1d00175d80d7ff089e6a"), looks := false }, kinds := [], alts := [], laidByText := true, laidKinds := [.data], laidTests := true, laidLooks := .later }
def AngleNumbersCardSaid : Prop := Claim7.holds Tryz.pinned (.plain (OpenSpec.ofChange angleNumbersSpec)) angleNumbersCard

/-- THE SECOND FORM's CARD OF 'rosettelaw03.DyadKeeps'. -/
def dyadKeepsUptoCard : Claim7 := { stood := { row := dyadKeepsUptoRow, standIns := [], harness := (true, "f45b884e16d0a9a78cfa869b5e3e92e6324090234ffb1d00175d80d7ff089e6a"), looks := false }, kinds := [], alts := [], laidByText := true, laidKinds := [.data], laidTests := true, laidLooks := .later }
def DyadKeepsUptoCardSaid : Prop := Claim7.holds Tryz.pinned (.plain (OpenSpec.upto dyadKeepsSpec)) dyadKeepsUptoCard

/-- THE SECOND FORM's CARD OF 'rosettelaw04.AngleNumbers'. -/
def angleNumbersUptoCard : Claim7 := { stood := { row := angleNumbersUptoRow, standIns := [], harness := (true, "f45b884e16d0a9a78cfa869b5e3e92e6324090234ffb1d00175d80d7ff089e6a"), looks := false }, kinds := [], alts := [], laidByText := true, laidKinds := [.data], laidTests := true, laidLooks := .later }
def AngleNumbersUptoCardSaid : Prop := Claim7.holds Tryz.pinned (.plain (OpenSpec.upto angleNumbersSpec)) angleNumbersUptoCard
end Rows
end Go.Proofs.YthilajhciifhaaaGreatDoor
