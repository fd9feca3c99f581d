/-
  DERIVED. GIVEN WITH THE SEED: THE CARDS: each row of YtniaelpbjgkfmaaDoorRows.lean that lists a variable, with what it lists TIED to the program's text (the seventh form; the later family's looks); each row that meets fmt, with fmt's text TOLD by the authors' own Lean function (tested against real Go, not proved from fmt's source: count such statements apart). THE CARD IS WHAT COUNTS. Prove the row's statement (the work); the ties are given (YtniaelpbjgkfmaaDoorTie.lean); close each card by the builder's one call (the guide's Derived/Test/ToyasCard.lean, 'card_holds'). Laid BY PROGRAM, IN A SANDBOX (cutbox-door.mjs). By AI agents, Wed Nov 11 2026. No macro, syntax, notation, axiom, sorry.
-/
import Derived.Test.YtniaelpbjgkfmaaDoorRows
import GoSem.ClaimSeven
namespace Go.Proofs.YtniaelpbjgkfmaaDoor
namespace Rows

/-- THE TIED CARD OF 'rosettelaw13.LimbNumbers'. -/
def limbNumbersCard : Claim7 := { stood := { row := limbNumbersRow, standIns := [], harness := (true, "a4f11d30b289244284b5322362c58b08618076cad738d87dcd22f3f32b5e1952"), looks := false }, kinds := [], alts := [], laidByText := true, laidKinds := [.data], laidTests := true, laidLooks := .later }
def LimbNumbersCardSaid : Prop := Claim7.holds Tryd.pinned (.plain (OpenSpec.ofChange limbNumbersSpec)) limbNumbersCard

/-- THE TIED CARD OF 'rosettelaw13.LimbOne'. -/
def limbOneCard : Claim7 := { stood := { row := limbOneRow, standIns := [], harness := (true, "a4f11d30b289244284b5322362c58b08618076cad738d87dcd22f3f32b5e1952"), looks := false }, kinds := [], alts := [], laidByText := true, laidKinds := [.data], laidTests := true, laidLooks := .later }
def LimbOneCardSaid : Prop := Claim7.holds Tryd.pinned (.plain (OpenSpec.ofChange limbOneSpec)) limbOneCard

/-- THE TIED CARD OF 'rosettelaw13.LimbTwo'. -/
def limbTwoCard : Claim7 := { stood := { row := limbTwoRow, standIns := [], harness := (true, "a4f11d30b289244284b5322362c58b08618076cad738d87dcd22f3f32b5e1952"), looks := false }, kinds := [], alts := [], laidByText := true, laidKinds := [.data], laidTests := true, laidLooks := .later }
def LimbTwoCardSaid : Prop := Claim7.holds Tryd.pinned (.plain (OpenSpec.ofChange limbTwoSpec)) limbTwoCard

/-- THE TIED CARD OF 'rosettelaw13.LimbGroup'. -/
def limbGroupCard : Claim7 := { stood := { row := limbGroupRow, standIns := [], harness := (true, "a4f11d30b289244284b5322362c58b08618076cad738d87dcd22f3f32b5e1952"), looks := false }, kinds := [], alts := [], laidByText := true, laidKinds := [.data], laidTests := true, laidLooks := .later }
def LimbGroupCardSaid : Prop := Claim7.holds Tryd.pinned (.plain (OpenSpec.ofChange limbGroupSpec)) limbGroupCard

/-- THE TIED CARD OF 'rosettelaw13.LimbOrder'. -/
def limbOrderCard : Claim7 := { stood := { row := limbOrderRow, standIns := [], harness := (true, "a4f11d30b289244284b5322362c58b08618076cad738d87dcd22f3f32b5e1952"), looks := false }, kinds := [], alts := [], laidByText := true, laidKinds := [.data], laidTests := true, laidLooks := .later }
def LimbOrderCardSaid : Prop := Claim7.holds Tryd.pinned (.plain (OpenSpec.ofChange limbOrderSpec)) limbOrderCard

/-- THE TIED CARD OF 'rosettelaw13.LimbShifts'. -/
def limbShiftsCard : Claim7 := { stood := { row := limbShiftsRow, standIns := [], harness := (true, "a4f11d30b289244284b5322362c58b08618076cad738d87dcd22f3f32b5e1952"), looks := false }, kinds := [], alts := [], laidByText := true, laidKinds := [.data], laidTests := true, laidLooks := .later }
def LimbShiftsCardSaid : Prop := Claim7.holds Tryd.pinned (.plain (OpenSpec.ofChange limbShiftsSpec)) limbShiftsCard

/-- THE SECOND FORM's CARD OF 'rosettelaw13.LimbNumbers'. -/
def limbNumbersUptoCard : Claim7 := { stood := { row := limbNumbersUptoRow, standIns := [], harness := (true, "a4f11d30b289244284b5322362c58b08618076cad738d87dcd22f3f32b5e1952"), looks := false }, kinds := [], alts := [], laidByText := true, laidKinds := [.data], laidTests := true, laidLooks := .later }
def LimbNumbersUptoCardSaid : Prop := Claim7.holds Tryd.pinned (.plain (OpenSpec.upto limbNumbersSpec)) limbNumbersUptoCard

/-- THE SECOND FORM's CARD OF 'rosettelaw13.LimbOne'. -/
def limbOneUptoCard : Claim7 := { stood := { row := limbOneUptoRow, standIns := [], harness := (true, "a4f11d30b289244284b5322362c58b08618076cad738d87dcd22f3f32b5e1952"), looks := false }, kinds := [], alts := [], laidByText := true, laidKinds := [.data], laidTests := true, laidLooks := .later }
def LimbOneUptoCardSaid : Prop := Claim7.holds Tryd.pinned (.plain (OpenSpec.upto limbOneSpec)) limbOneUptoCard

/-- THE SECOND FORM's CARD OF 'rosettelaw13.LimbTwo'. -/
def limbTwoUptoCard : Claim7 := { stood := { row := limbTwoUptoRow, standIns := [], harness := (true, "a4f11d30b289244284b5322362c58b08618076cad738d87dcd22f3f32b5e1952"), looks := false }, kinds := [], alts := [], laidByText := true, laidKinds := [.data], laidTests := true, laidLooks := .later }
def LimbTwoUptoCardSaid : Prop := Claim7.holds Tryd.pinned (.plain (OpenSpec.upto limbTwoSpec)) limbTwoUptoCard

/-- THE SECOND FORM's CARD OF 'rosettelaw13.LimbGroup'. -/
def limbGroupUptoCard : Claim7 := { stood := { row := limbGroupUptoRow, standIns := [], harness := (true, "a4f11d30b289244284b5322362c58b08618076cad738d87dcd22f3f32b5e1952"), looks := false }, kinds := [], alts := [], laidByText := true, laidKinds := [.data], laidTests := true, laidLooks := .later }
def LimbGroupUptoCardSaid : Prop := Claim7.holds Tryd.pinned (.plain (OpenSpec.upto limbGroupSpec)) limbGroupUptoCard

/-- THE SECOND FORM's CARD OF 'rosettelaw13.LimbOrder'. -/
def limbOrderUptoCard : Claim7 := { stood := { row := limbOrderUptoRow, standIns := [], harness := (true, "a4f11d30b289244284b5322362c58b08618076cad738d87dcd22f3f32b5e1952"), looks := false }, kinds := [], alts := [], laidByText := true, laidKinds := [.data], laidTests := true, laidLooks := .later }
def LimbOrderUptoCardSaid : Prop := Claim7.holds Tryd.pinned (.plain (OpenSpec.upto limbOrderSpec)) limbOrderUptoCard

/-- THE SECOND FORM's CARD OF 'rosettelaw13.LimbShifts'. -/
def limbShiftsUptoCard : Claim7 := { stood := { row := limbShiftsUptoRow, standIns := [], harness := (true, "a4f11d30b289244284b5322362c58b08618076cad738d87dcd22f3f32b5e1952"), looks := false }, kinds := [], alts := [], laidByText := true, laidKinds := [.data], laidTests := true, laidLooks := .later }
def LimbShiftsUptoCardSaid : Prop := Claim7.holds Tryd.pinned (.plain (OpenSpec.upto limbShiftsSpec)) limbShiftsUptoCard
end Rows
end Go.Proofs.YtniaelpbjgkfmaaDoor
