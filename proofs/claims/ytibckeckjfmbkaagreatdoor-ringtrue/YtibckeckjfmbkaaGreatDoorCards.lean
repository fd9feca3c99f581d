/-
  DERIVED. GIVEN WITH THE SEED: THE CARDS: each row of YtibckeckjfmbkaaGreatDoorRows.lean that lists a variable, with what it lists TIED to the program's text (the seventh form; the later family's looks); each row that meets fmt, with fmt's text TOLD by the authors' own Lean function (tested against real Go, not proved from fmt's source: count such statements apart). THE CARD IS WHAT COUNTS. Prove the row's statement (the work); the ties are given (YtibckeckjfmbkaaGreatDoorTie.lean); close each card by the builder's one call (the guide's Derived/Test/ToyasCard.lean, 'card_holds'). Laid BY PROGRAM, IN A SANDBOX (cutbox-door.mjs). By AI agents, Wed Nov 11 2026. No macro, syntax, notation, axiom, sorry.
-/
import Derived.Test.YtibckeckjfmbkaaGreatDoorRows
import GoSem.ClaimSeven
namespace Go.Proofs.YtibckeckjfmbkaaGreatDoor
namespace Rows

/-- THE TIED CARD OF 'rosettelaw11.RingTells'. -/
def ringTellsCard : Claim7 := { stood := { row := ringTellsRow, standIns := [], harness := (true, "4562affd9626f65fe9cbc2be504e334e095e5e12e02983ae25866e9683c0a132"), looks := false }, kinds := [], alts := [], laidByText := true, laidKinds := [.data, .data, .data], laidTests := true, laidLooks := .later }
def RingTellsCardSaid : Prop := Claim7.holds Tryz.pinned (.plain (OpenSpec.ofChange ringTellsSpec)) ringTellsCard

/-- THE TIED CARD OF 'rosettelaw11.RingTrue'. -/
def ringTrueCard : Claim7 := { stood := { row := ringTrueRow, standIns := [], harness := (true, "4562affd9626f65fe9cbc2be504e334e095e5e12e02983ae25866e9683c0a132"), looks := false }, kinds := [], alts := [], laidByText := true, laidKinds := [.data, .data, .data], laidTests := true, laidLooks := .later }
def RingTrueCardSaid : Prop := Claim7.holds Tryz.pinned (.plain (OpenSpec.ofChange ringTrueSpec)) ringTrueCard

/-- THE TIED CARD OF 'rosettelaw11.RingLaws'. -/
def ringLawsCard : Claim7 := { stood := { row := ringLawsRow, standIns := [], harness := (true, "4562affd9626f65fe9cbc2be504e334e095e5e12e02983ae25866e9683c0a132"), looks := false }, kinds := [], alts := [], laidByText := true, laidKinds := [.data, .data, .data], laidTests := true, laidLooks := .later }
def RingLawsCardSaid : Prop := Claim7.holds Tryz.pinned (.plain (OpenSpec.ofChange ringLawsSpec)) ringLawsCard

/-- THE TIED CARD OF 'rosettelaw11.RingNever'. -/
def ringNeverCard : Claim7 := { stood := { row := ringNeverRow, standIns := [], harness := (true, "4562affd9626f65fe9cbc2be504e334e095e5e12e02983ae25866e9683c0a132"), looks := false }, kinds := [], alts := [], laidByText := true, laidKinds := [.data, .data, .data], laidTests := true, laidLooks := .later }
def RingNeverCardSaid : Prop := Claim7.holds Tryz.pinned (.plain (OpenSpec.ofChange ringNeverSpec)) ringNeverCard

/-- THE SECOND FORM's CARD OF 'rosettelaw11.RingTells'. -/
def ringTellsUptoCard : Claim7 := { stood := { row := ringTellsUptoRow, standIns := [], harness := (true, "4562affd9626f65fe9cbc2be504e334e095e5e12e02983ae25866e9683c0a132"), looks := false }, kinds := [], alts := [], laidByText := true, laidKinds := [.data, .data, .data], laidTests := true, laidLooks := .later }
def RingTellsUptoCardSaid : Prop := Claim7.holds Tryz.pinned (.plain (OpenSpec.upto ringTellsSpec)) ringTellsUptoCard

/-- THE SECOND FORM's CARD OF 'rosettelaw11.RingTrue'. -/
def ringTrueUptoCard : Claim7 := { stood := { row := ringTrueUptoRow, standIns := [], harness := (true, "4562affd9626f65fe9cbc2be504e334e095e5e12e02983ae25866e9683c0a132"), looks := false }, kinds := [], alts := [], laidByText := true, laidKinds := [.data, .data, .data], laidTests := true, laidLooks := .later }
def RingTrueUptoCardSaid : Prop := Claim7.holds Tryz.pinned (.plain (OpenSpec.upto ringTrueSpec)) ringTrueUptoCard

/-- THE SECOND FORM's CARD OF 'rosettelaw11.RingLaws'. -/
def ringLawsUptoCard : Claim7 := { stood := { row := ringLawsUptoRow, standIns := [], harness := (true, "4562affd9626f65fe9cbc2be504e334e095e5e12e02983ae25866e9683c0a132"), looks := false }, kinds := [], alts := [], laidByText := true, laidKinds := [.data, .data, .data], laidTests := true, laidLooks := .later }
def RingLawsUptoCardSaid : Prop := Claim7.holds Tryz.pinned (.plain (OpenSpec.upto ringLawsSpec)) ringLawsUptoCard

/-- THE SECOND FORM's CARD OF 'rosettelaw11.RingNever'. -/
def ringNeverUptoCard : Claim7 := { stood := { row := ringNeverUptoRow, standIns := [], harness := (true, "4562affd9626f65fe9cbc2be504e334e095e5e12e02983ae25866e9683c0a132"), looks := false }, kinds := [], alts := [], laidByText := true, laidKinds := [.data, .data, .data], laidTests := true, laidLooks := .later }
def RingNeverUptoCardSaid : Prop := Claim7.holds Tryz.pinned (.plain (OpenSpec.upto ringNeverSpec)) ringNeverUptoCard
end Rows
end Go.Proofs.YtibckeckjfmbkaaGreatDoor
