/-
  DERIVED. GIVEN WITH THE SEED: THE CARDS: each row of YtfgaifbnhdgkgaaDoorRows.lean that lists a variable, with what it lists TIED to the program's text (the seventh form; the later family's looks); each row that meets fmt, with fmt's text TOLD by the authors' own Lean function (tested against real Go, not proved from fmt's source: count such statements apart). THE CARD IS WHAT COUNTS. Prove the row's statement (the work); the ties are given (YtfgaifbnhdgkgaaDoorTie.lean); close each card by the builder's one call (the guide's Derived/Test/ToyasCard.lean, 'card_holds'). Laid BY PROGRAM, IN A SANDBOX (cutbox-door.mjs). By AI agents, Wed Nov 11 2026. No macro, syntax, notation, axiom, sorry.
-/
import Derived.Test.YtfgaifbnhdgkgaaDoorRows
import GoSem.ClaimSeven
namespace Go.Proofs.YtfgaifbnhdgkgaaDoor
namespace Rows

/-- THE TIED CARD OF 'rosettelaw05.WheelTurned'. -/
def wheelTurnedCard : Claim7 := { stood := { row := wheelTurnedRow, standIns := [], harness := (true, "86d2147ea1e87d45758560559d92b779ddf9fb1af75be8e0217513a5535e17fa"), looks := false }, kinds := [], alts := [], laidByText := true, laidKinds := [.data], laidTests := true, laidLooks := .later }
def WheelTurnedCardSaid : Prop := Claim7.holds Tryd.pinned (.plain (OpenSpec.ofChange wheelTurnedSpec)) wheelTurnedCard

/-- THE TIED CARD OF 'rosettelaw05.WheelSteep'. -/
def wheelSteepCard : Claim7 := { stood := { row := wheelSteepRow, standIns := [], harness := (true, "86d2147ea1e87d45758560559d92b779ddf9fb1af75be8e0217513a5535e17fa"), looks := false }, kinds := [], alts := [], laidByText := true, laidKinds := [.data], laidTests := true, laidLooks := .later }
def WheelSteepCardSaid : Prop := Claim7.holds Tryd.pinned (.plain (OpenSpec.ofChange wheelSteepSpec)) wheelSteepCard

/-- THE SECOND FORM's CARD OF 'rosettelaw05.WheelTurned'. -/
def wheelTurnedUptoCard : Claim7 := { stood := { row := wheelTurnedUptoRow, standIns := [], harness := (true, "86d2147ea1e87d45758560559d92b779ddf9fb1af75be8e0217513a5535e17fa"), looks := false }, kinds := [], alts := [], laidByText := true, laidKinds := [.data], laidTests := true, laidLooks := .later }
def WheelTurnedUptoCardSaid : Prop := Claim7.holds Tryd.pinned (.plain (OpenSpec.upto wheelTurnedSpec)) wheelTurnedUptoCard

/-- THE SECOND FORM's CARD OF 'rosettelaw05.WheelSteep'. -/
def wheelSteepUptoCard : Claim7 := { stood := { row := wheelSteepUptoRow, standIns := [], harness := (true, "86d2147ea1e87d45758560559d92b779ddf9fb1af75be8e0217513a5535e17fa"), looks := false }, kinds := [], alts := [], laidByText := true, laidKinds := [.data], laidTests := true, laidLooks := .later }
def WheelSteepUptoCardSaid : Prop := Claim7.holds Tryd.pinned (.plain (OpenSpec.upto wheelSteepSpec)) wheelSteepUptoCard
end Rows
end Go.Proofs.YtfgaifbnhdgkgaaDoor
