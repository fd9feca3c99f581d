/-
  DERIVED. GIVEN WITH THE SEED: THE CARDS: each row of YtlhpkflknfmjcaaGreatDoorRows.lean that lists a variable, with what it lists TIED to the program's text (the seventh form; the later family's looks); each row that meets fmt, with fmt's text TOLD by the authors' own Lean function (tested against real Go, not proved from fmt's source: count such statements apart). THE CARD IS WHAT COUNTS. Prove the row's statement (the work); the ties are given (YtlhpkflknfmjcaaGreatDoorTie.lean); close each card by the builder's one call (the guide's Derived/Test/ToyasCard.lean, 'card_holds'). Laid BY PROGRAM, IN A SANDBOX (cutbox-door.mjs). By AI agents, Wed Nov 11 2026. No macro, syntax, notation, axiom, sorry.
-/
import Derived.Test.YtlhpkflknfmjcaaGreatDoorRows
import GoSem.ClaimSeven
namespace Go.Proofs.YtlhpkflknfmjcaaGreatDoor
namespace Rows

/-- THE TIED CARD OF 'rosettelaw05.WheelKeeps'. -/
def wheelKeepsCard : Claim7 := { stood := { row := wheelKeepsRow, standIns := [], harness := (true, "934dc0908641ff8cf876322ba5d1b4038c9b59a2e4b627350b9498906a3cce51"), looks := false }, kinds := [], alts := [], laidByText := true, laidKinds := [.data], laidTests := true, laidLooks := .later }
def WheelKeepsCardSaid : Prop := Claim7.holds Tryz.pinned (.plain (OpenSpec.ofChange wheelKeepsSpec)) wheelKeepsCard

/-- THE TIED CARD OF 'rosettelaw10.RealTells'. -/
def realTellsCard : Claim7 := { stood := { row := realTellsRow, standIns := [], harness := (true, "934dc0908641ff8cf876322ba5d1b4038c9b59a2e4b627350b9498906a3cce51"), looks := false }, kinds := [], alts := [], laidByText := true, laidKinds := [.data, .data], laidTests := true, laidLooks := .later }
def RealTellsCardSaid : Prop := Claim7.holds Tryz.pinned (.plain (OpenSpec.ofChange realTellsSpec)) realTellsCard

/-- THE TIED CARD OF 'rosettelaw10.RealBack'. -/
def realBackCard : Claim7 := { stood := { row := realBackRow, standIns := [], harness := (true, "934dc0908641ff8cf876322ba5d1b4038c9b59a2e4b627350b9498906a3cce51"), looks := false }, kinds := [], alts := [], laidByText := true, laidKinds := [.data, .data], laidTests := true, laidLooks := .later }
def RealBackCardSaid : Prop := Claim7.holds Tryz.pinned (.plain (OpenSpec.ofChange realBackSpec)) realBackCard

/-- THE SECOND FORM's CARD OF 'rosettelaw05.WheelKeeps'. -/
def wheelKeepsUptoCard : Claim7 := { stood := { row := wheelKeepsUptoRow, standIns := [], harness := (true, "934dc0908641ff8cf876322ba5d1b4038c9b59a2e4b627350b9498906a3cce51"), looks := false }, kinds := [], alts := [], laidByText := true, laidKinds := [.data], laidTests := true, laidLooks := .later }
def WheelKeepsUptoCardSaid : Prop := Claim7.holds Tryz.pinned (.plain (OpenSpec.upto wheelKeepsSpec)) wheelKeepsUptoCard

/-- THE SECOND FORM's CARD OF 'rosettelaw10.RealTells'. -/
def realTellsUptoCard : Claim7 := { stood := { row := realTellsUptoRow, standIns := [], harness := (true, "934dc0908641ff8cf876322ba5d1b4038c9b59a2e4b627350b9498906a3cce51"), looks := false }, kinds := [], alts := [], laidByText := true, laidKinds := [.data, .data], laidTests := true, laidLooks := .later }
def RealTellsUptoCardSaid : Prop := Claim7.holds Tryz.pinned (.plain (OpenSpec.upto realTellsSpec)) realTellsUptoCard

/-- THE SECOND FORM's CARD OF 'rosettelaw10.RealBack'. -/
def realBackUptoCard : Claim7 := { stood := { row := realBackUptoRow, standIns := [], harness := (true, "934dc0908641ff8cf876322ba5d1b4038c9b59a2e4b627350b9498906a3cce51"), looks := false }, kinds := [], alts := [], laidByText := true, laidKinds := [.data, .data], laidTests := true, laidLooks := .later }
def RealBackUptoCardSaid : Prop := Claim7.holds Tryz.pinned (.plain (OpenSpec.upto realBackSpec)) realBackUptoCard
end Rows
end Go.Proofs.YtlhpkflknfmjcaaGreatDoor
