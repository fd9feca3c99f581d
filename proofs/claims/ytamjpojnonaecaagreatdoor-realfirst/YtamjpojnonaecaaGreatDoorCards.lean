/-
  DERIVED. GIVEN WITH THE SEED: THE CARDS: each row of YtamjpojnonaecaaGreatDoorRows.lean that lists a variable, with what it lists TIED to the program's text (the seventh form; the later family's looks); each row that meets fmt, with fmt's text TOLD by the authors' own Lean function (tested against real Go, not proved from fmt's source: count such statements apart). THE CARD IS WHAT COUNTS. Prove the row's statement (the work); the ties are given (YtamjpojnonaecaaGreatDoorTie.lean); close each card by the builder's one call (the guide's Derived/Test/ToyasCard.lean, 'card_holds'). Laid BY PROGRAM, IN A SANDBOX (cutbox-door.mjs). By AI agents, Wed Nov 11 2026. No macro, syntax, notation, axiom, sorry.
-/
import Derived.Test.YtamjpojnonaecaaGreatDoorRows
import GoSem.ClaimSeven
namespace Go.Proofs.YtamjpojnonaecaaGreatDoor
namespace Rows

/-- THE TIED CARD OF 'rosettelaw07.TurnNumbers'. -/
def turnNumbersCard : Claim7 := { stood := { row := turnNumbersRow, standIns := [], harness := (true, "56b3562e39cf43e3038168340a034bf780603a0b3d63803c795f4674fa905759"), looks := false }, kinds := [], alts := [], laidByText := true, laidKinds := [.data, .data], laidTests := true, laidLooks := .later }
def TurnNumbersCardSaid : Prop := Claim7.holds Tryz.pinned (.plain (OpenSpec.ofChange turnNumbersSpec)) turnNumbersCard

/-- THE TIED CARD OF 'rosettelaw10.RealNumbers'. -/
def realNumbersCard : Claim7 := { stood := { row := realNumbersRow, standIns := [], harness := (true, "56b3562e39cf43e3038168340a034bf780603a0b3d63803c795f4674fa905759"), looks := false }, kinds := [], alts := [], laidByText := true, laidKinds := [.data, .data], laidTests := true, laidLooks := .later }
def RealNumbersCardSaid : Prop := Claim7.holds Tryz.pinned (.plain (OpenSpec.ofChange realNumbersSpec)) realNumbersCard

/-- THE TIED CARD OF 'rosettelaw10.RealEven'. -/
def realEvenCard : Claim7 := { stood := { row := realEvenRow, standIns := [], harness := (true, "56b3562e39cf43e3038168340a034bf780603a0b3d63803c795f4674fa905759"), looks := false }, kinds := [], alts := [], laidByText := true, laidKinds := [.data, .data], laidTests := true, laidLooks := .later }
def RealEvenCardSaid : Prop := Claim7.holds Tryz.pinned (.plain (OpenSpec.ofChange realEvenSpec)) realEvenCard

/-- THE TIED CARD OF 'rosettelaw10.RealHalves'. -/
def realHalvesCard : Claim7 := { stood := { row := realHalvesRow, standIns := [], harness := (true, "56b3562e39cf43e3038168340a034bf780603a0b3d63803c795f4674fa905759"), looks := false }, kinds := [], alts := [], laidByText := true, laidKinds := [.data, .data], laidTests := true, laidLooks := .later }
def RealHalvesCardSaid : Prop := Claim7.holds Tryz.pinned (.plain (OpenSpec.ofChange realHalvesSpec)) realHalvesCard

/-- THE TIED CARD OF 'rosettelaw10.RealFirst'. -/
def realFirstCard : Claim7 := { stood := { row := realFirstRow, standIns := [], harness := (true, "56b3562e39cf43e3038168340a034bf780603a0b3d63803c795f4674fa905759"), looks := false }, kinds := [], alts := [], laidByText := true, laidKinds := [.data, .data], laidTests := true, laidLooks := .later }
def RealFirstCardSaid : Prop := Claim7.holds Tryz.pinned (.plain (OpenSpec.ofChange realFirstSpec)) realFirstCard

/-- THE TIED CARD OF 'rosettelaw10.RealSpares'. -/
def realSparesCard : Claim7 := { stood := { row := realSparesRow, standIns := [], harness := (true, "56b3562e39cf43e3038168340a034bf780603a0b3d63803c795f4674fa905759"), looks := false }, kinds := [], alts := [], laidByText := true, laidKinds := [.data, .data], laidTests := true, laidLooks := .later }
def RealSparesCardSaid : Prop := Claim7.holds Tryz.pinned (.plain (OpenSpec.ofChange realSparesSpec)) realSparesCard

/-- THE SECOND FORM's CARD OF 'rosettelaw07.TurnNumbers'. -/
def turnNumbersUptoCard : Claim7 := { stood := { row := turnNumbersUptoRow, standIns := [], harness := (true, "56b3562e39cf43e3038168340a034bf780603a0b3d63803c795f4674fa905759"), looks := false }, kinds := [], alts := [], laidByText := true, laidKinds := [.data, .data], laidTests := true, laidLooks := .later }
def TurnNumbersUptoCardSaid : Prop := Claim7.holds Tryz.pinned (.plain (OpenSpec.upto turnNumbersSpec)) turnNumbersUptoCard

/-- THE SECOND FORM's CARD OF 'rosettelaw10.RealNumbers'. -/
def realNumbersUptoCard : Claim7 := { stood := { row := realNumbersUptoRow, standIns := [], harness := (true, "56b3562e39cf43e3038168340a034bf780603a0b3d63803c795f4674fa905759"), looks := false }, kinds := [], alts := [], laidByText := true, laidKinds := [.data, .data], laidTests := true, laidLooks := .later }
def RealNumbersUptoCardSaid : Prop := Claim7.holds Tryz.pinned (.plain (OpenSpec.upto realNumbersSpec)) realNumbersUptoCard

/-- THE SECOND FORM's CARD OF 'rosettelaw10.RealEven'. -/
def realEvenUptoCard : Claim7 := { stood := { row := realEvenUptoRow, standIns := [], harness := (true, "56b3562e39cf43e3038168340a034bf780603a0b3d63803c795f4674fa905759"), looks := false }, kinds := [], alts := [], laidByText := true, laidKinds := [.data, .data], laidTests := true, laidLooks := .later }
def RealEvenUptoCardSaid : Prop := Claim7.holds Tryz.pinned (.plain (OpenSpec.upto realEvenSpec)) realEvenUptoCard

/-- THE SECOND FORM's CARD OF 'rosettelaw10.RealHalves'. -/
def realHalvesUptoCard : Claim7 := { stood := { row := realHalvesUptoRow, standIns := [], harness := (true, "56b3562e39cf43e3038168340a034bf780603a0b3d63803c795f4674fa905759"), looks := false }, kinds := [], alts := [], laidByText := true, laidKinds := [.data, .data], laidTests := true, laidLooks := .later }
def RealHalvesUptoCardSaid : Prop := Claim7.holds Tryz.pinned (.plain (OpenSpec.upto realHalvesSpec)) realHalvesUptoCard

/-- THE SECOND FORM's CARD OF 'rosettelaw10.RealFirst'. -/
def realFirstUptoCard : Claim7 := { stood := { row := realFirstUptoRow, standIns := [], harness := (true, "56b3562e39cf43e3038168340a034bf780603a0b3d63803c795f4674fa905759"), looks := false }, kinds := [], alts := [], laidByText := true, laidKinds := [.data, .data], laidTests := true, laidLooks := .later }
def RealFirstUptoCardSaid : Prop := Claim7.holds Tryz.pinned (.plain (OpenSpec.upto realFirstSpec)) realFirstUptoCard

/-- THE SECOND FORM's CARD OF 'rosettelaw10.RealSpares'. -/
def realSparesUptoCard : Claim7 := { stood := { row := realSparesUptoRow, standIns := [], harness := (true, "56b3562e39cf43e3038168340a034bf780603a0b3d63803c795f4674fa905759"), looks := false }, kinds := [], alts := [], laidByText := true, laidKinds := [.data, .data], laidTests := true, laidLooks := .later }
def RealSparesUptoCardSaid : Prop := Claim7.holds Tryz.pinned (.plain (OpenSpec.upto realSparesSpec)) realSparesUptoCard
end Rows
end Go.Proofs.YtamjpojnonaecaaGreatDoor
