/-
  DERIVED. GIVEN WITH THE SEED: THE CARDS: each row of YtnhekagmdniokaaGreatDoorRows.lean that lists a variable, with what it lists TIED to the program's text (the seventh form; the later family's looks); each row that meets fmt, with fmt's text TOLD by the authors' own Lean function (tested against real Go, not proved from fmt's source: count such statements apart). THE CARD IS WHAT COUNTS. Prove the row's statement (the work); the ties are given (YtnhekagmdniokaaGreatDoorTie.lean); close each card by the builder's one call (the guide's Derived/Test/ToyasCard.lean, 'card_holds'). Laid BY PROGRAM, IN A SANDBOX (cutbox-door.mjs). By AI agents, Wed Nov 11 2026. No macro, syntax, notation, axiom, sorry.
-/
import Derived.Test.YtnhekagmdniokaaGreatDoorRows
import GoSem.ClaimSeven
namespace Go.Proofs.YtnhekagmdniokaaGreatDoor
namespace Rows

/-- THE TIED CARD OF 'rosettelaw16.RecipTells'. -/
def recipTellsCard : Claim7 := { stood := { row := recipTellsRow, standIns := [], harness := (true, "76b9cdc8da38c91530a2313ea7727db2ee887186a372f735b21ae991401105b2"), looks := false }, kinds := [], alts := [], laidByText := true, laidKinds := [.data], laidTests := true, laidLooks := .later }
def RecipTellsCardSaid : Prop := Claim7.holds Tryz.pinned (.plain (OpenSpec.ofChange recipTellsSpec)) recipTellsCard

/-- THE TIED CARD OF 'rosettelaw16.RecipSteps'. -/
def recipStepsCard : Claim7 := { stood := { row := recipStepsRow, standIns := [], harness := (true, "76b9cdc8da38c91530a2313ea7727db2ee887186a372f735b21ae991401105b2"), looks := false }, kinds := [], alts := [], laidByText := true, laidKinds := [.data], laidTests := true, laidLooks := .later }
def RecipStepsCardSaid : Prop := Claim7.holds Tryz.pinned (.plain (OpenSpec.ofChange recipStepsSpec)) recipStepsCard

/-- THE TIED CARD OF 'rosettelaw16.RecipWithin'. -/
def recipWithinCard : Claim7 := { stood := { row := recipWithinRow, standIns := [], harness := (true, "76b9cdc8da38c91530a2313ea7727db2ee887186a372f735b21ae991401105b2"), looks := false }, kinds := [], alts := [], laidByText := true, laidKinds := [.data], laidTests := true, laidLooks := .later }
def RecipWithinCardSaid : Prop := Claim7.holds Tryz.pinned (.plain (OpenSpec.ofChange recipWithinSpec)) recipWithinCard

/-- THE TIED CARD OF 'rosettelaw16.RecipSpares'. -/
def recipSparesCard : Claim7 := { stood := { row := recipSparesRow, standIns := [], harness := (true, "76b9cdc8da38c91530a2313ea7727db2ee887186a372f735b21ae991401105b2"), looks := false }, kinds := [], alts := [], laidByText := true, laidKinds := [.data], laidTests := true, laidLooks := .later }
def RecipSparesCardSaid : Prop := Claim7.holds Tryz.pinned (.plain (OpenSpec.ofChange recipSparesSpec)) recipSparesCard

/-- THE SECOND FORM's CARD OF 'rosettelaw16.RecipTells'. -/
def recipTellsUptoCard : Claim7 := { stood := { row := recipTellsUptoRow, standIns := [], harness := (true, "76b9cdc8da38c91530a2313ea7727db2ee887186a372f735b21ae991401105b2"), looks := false }, kinds := [], alts := [], laidByText := true, laidKinds := [.data], laidTests := true, laidLooks := .later }
def RecipTellsUptoCardSaid : Prop := Claim7.holds Tryz.pinned (.plain (OpenSpec.upto recipTellsSpec)) recipTellsUptoCard

/-- THE SECOND FORM's CARD OF 'rosettelaw16.RecipSteps'. -/
def recipStepsUptoCard : Claim7 := { stood := { row := recipStepsUptoRow, standIns := [], harness := (true, "76b9cdc8da38c91530a2313ea7727db2ee887186a372f735b21ae991401105b2"), looks := false }, kinds := [], alts := [], laidByText := true, laidKinds := [.data], laidTests := true, laidLooks := .later }
def RecipStepsUptoCardSaid : Prop := Claim7.holds Tryz.pinned (.plain (OpenSpec.upto recipStepsSpec)) recipStepsUptoCard

/-- THE SECOND FORM's CARD OF 'rosettelaw16.RecipWithin'. -/
def recipWithinUptoCard : Claim7 := { stood := { row := recipWithinUptoRow, standIns := [], harness := (true, "76b9cdc8da38c91530a2313ea7727db2ee887186a372f735b21ae991401105b2"), looks := false }, kinds := [], alts := [], laidByText := true, laidKinds := [.data], laidTests := true, laidLooks := .later }
def RecipWithinUptoCardSaid : Prop := Claim7.holds Tryz.pinned (.plain (OpenSpec.upto recipWithinSpec)) recipWithinUptoCard

/-- THE SECOND FORM's CARD OF 'rosettelaw16.RecipSpares'. -/
def recipSparesUptoCard : Claim7 := { stood := { row := recipSparesUptoRow, standIns := [], harness := (true, "76b9cdc8da38c91530a2313ea7727db2ee887186a372f735b21ae991401105b2"), looks := false }, kinds := [], alts := [], laidByText := true, laidKinds := [.data], laidTests := true, laidLooks := .later }
def RecipSparesUptoCardSaid : Prop := Claim7.holds Tryz.pinned (.plain (OpenSpec.upto recipSparesSpec)) recipSparesUptoCard
end Rows
end Go.Proofs.YtnhekagmdniokaaGreatDoor
