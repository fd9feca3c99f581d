/-
  DERIVED. GIVEN WITH THE SEED: THE CARDS: each row of YtbcocfhfhblhcaaGreatDoorRows.lean that lists a variable, with what it lists TIED to the program's text (the seventh form; the later family's looks); each row that meets fmt, with fmt's text TOLD by the authors' own Lean function (tested against real Go, not proved from fmt's source: count such statements apart). THE CARD IS WHAT COUNTS. Prove the row's statement (the work); the ties are given (YtbcocfhfhblhcaaGreatDoorTie.lean); close each card by the builder's one call (the guide's Derived/Test/ToyasCard.lean, 'card_holds'). Laid BY PROGRAM, IN A SANDBOX (cutbox-door.mjs). By AI agents, Wed Nov 11 2026. No macro, syntax, notation, axiom, sorry.
-/
import Derived.Test.YtbcocfhfhblhcaaGreatDoorRows
import GoSem.ClaimSeven
namespace Go.Proofs.YtbcocfhfhblhcaaGreatDoor
namespace Rows

/-- THE TIED CARD OF 'rosettelaw12.PlainTimes'. -/
def plainTimesCard : Claim7 := { stood := { row := plainTimesRow, standIns := [], harness := (true, "81b02b14134ac3fa83006a514d4bf721b2e79e2a806130fd2d130e3742644895"), looks := false }, kinds := [], alts := [], laidByText := true, laidKinds := [.data, .data, .data], laidTests := true, laidLooks := .later }
def PlainTimesCardSaid : Prop := Claim7.holds Tryz.pinned (.plain (OpenSpec.ofChange plainTimesSpec)) plainTimesCard

/-- THE TIED CARD OF 'rosettelaw12.PlainSlowly'. -/
def plainSlowlyCard : Claim7 := { stood := { row := plainSlowlyRow, standIns := [], harness := (true, "81b02b14134ac3fa83006a514d4bf721b2e79e2a806130fd2d130e3742644895"), looks := false }, kinds := [], alts := [], laidByText := true, laidKinds := [.data, .data, .data], laidTests := true, laidLooks := .later }
def PlainSlowlyCardSaid : Prop := Claim7.holds Tryz.pinned (.plain (OpenSpec.ofChange plainSlowlySpec)) plainSlowlyCard

/-- THE TIED CARD OF 'rosettelaw12.PlainKeeps'. -/
def plainKeepsCard : Claim7 := { stood := { row := plainKeepsRow, standIns := [], harness := (true, "81b02b14134ac3fa83006a514d4bf721b2e79e2a806130fd2d130e3742644895"), looks := false }, kinds := [], alts := [], laidByText := true, laidKinds := [.data, .data, .data], laidTests := true, laidLooks := .later }
def PlainKeepsCardSaid : Prop := Claim7.holds Tryz.pinned (.plain (OpenSpec.ofChange plainKeepsSpec)) plainKeepsCard

/-- THE TIED CARD OF 'rosettelaw12.PlainNumbers'. -/
def plainNumbersCard : Claim7 := { stood := { row := plainNumbersRow, standIns := [], harness := (true, "81b02b14134ac3fa83006a514d4bf721b2e79e2a806130fd2d130e3742644895"), looks := false }, kinds := [], alts := [], laidByText := true, laidKinds := [.data, .data, .data], laidTests := true, laidLooks := .later }
def PlainNumbersCardSaid : Prop := Claim7.holds Tryz.pinned (.plain (OpenSpec.ofChange plainNumbersSpec)) plainNumbersCard

/-- THE TIED CARD OF 'rosettelaw12.PlainNever'. -/
def plainNeverCard : Claim7 := { stood := { row := plainNeverRow, standIns := [], harness := (true, "81b02b14134ac3fa83006a514d4bf721b2e79e2a806130fd2d130e3742644895"), looks := false }, kinds := [], alts := [], laidByText := true, laidKinds := [.data, .data, .data], laidTests := true, laidLooks := .later }
def PlainNeverCardSaid : Prop := Claim7.holds Tryz.pinned (.plain (OpenSpec.ofChange plainNeverSpec)) plainNeverCard

/-- THE TIED CARD OF 'rosettelaw12.PlainRing'. -/
def plainRingCard : Claim7 := { stood := { row := plainRingRow, standIns := [], harness := (true, "81b02b14134ac3fa83006a514d4bf721b2e79e2a806130fd2d130e3742644895"), looks := false }, kinds := [], alts := [], laidByText := true, laidKinds := [.data, .data, .data], laidTests := true, laidLooks := .later }
def PlainRingCardSaid : Prop := Claim7.holds Tryz.pinned (.plain (OpenSpec.ofChange plainRingSpec)) plainRingCard

/-- THE SECOND FORM's CARD OF 'rosettelaw12.PlainTimes'. -/
def plainTimesUptoCard : Claim7 := { stood := { row := plainTimesUptoRow, standIns := [], harness := (true, "81b02b14134ac3fa83006a514d4bf721b2e79e2a806130fd2d130e3742644895"), looks := false }, kinds := [], alts := [], laidByText := true, laidKinds := [.data, .data, .data], laidTests := true, laidLooks := .later }
def PlainTimesUptoCardSaid : Prop := Claim7.holds Tryz.pinned (.plain (OpenSpec.upto plainTimesSpec)) plainTimesUptoCard

/-- THE SECOND FORM's CARD OF 'rosettelaw12.PlainSlowly'. -/
def plainSlowlyUptoCard : Claim7 := { stood := { row := plainSlowlyUptoRow, standIns := [], harness := (true, "81b02b14134ac3fa83006a514d4bf721b2e79e2a806130fd2d130e3742644895"), looks := false }, kinds := [], alts := [], laidByText := true, laidKinds := [.data, .data, .data], laidTests := true, laidLooks := .later }
def PlainSlowlyUptoCardSaid : Prop := Claim7.holds Tryz.pinned (.plain (OpenSpec.upto plainSlowlySpec)) plainSlowlyUptoCard

/-- THE SECOND FORM's CARD OF 'rosettelaw12.PlainKeeps'. -/
def plainKeepsUptoCard : Claim7 := { stood := { row := plainKeepsUptoRow, standIns := [], harness := (true, "81b02b14134ac3fa83006a514d4bf721b2e79e2a806130fd2d130e3742644895"), looks := false }, kinds := [], alts := [], laidByText := true, laidKinds := [.data, .data, .data], laidTests := true, laidLooks := .later }
def PlainKeepsUptoCardSaid : Prop := Claim7.holds Tryz.pinned (.plain (OpenSpec.upto plainKeepsSpec)) plainKeepsUptoCard

/-- THE SECOND FORM's CARD OF 'rosettelaw12.PlainNumbers'. -/
def plainNumbersUptoCard : Claim7 := { stood := { row := plainNumbersUptoRow, standIns := [], harness := (true, "81b02b14134ac3fa83006a514d4bf721b2e79e2a806130fd2d130e3742644895"), looks := false }, kinds := [], alts := [], laidByText := true, laidKinds := [.data, .data, .data], laidTests := true, laidLooks := .later }
def PlainNumbersUptoCardSaid : Prop := Claim7.holds Tryz.pinned (.plain (OpenSpec.upto plainNumbersSpec)) plainNumbersUptoCard

/-- THE SECOND FORM's CARD OF 'rosettelaw12.PlainNever'. -/
def plainNeverUptoCard : Claim7 := { stood := { row := plainNeverUptoRow, standIns := [], harness := (true, "81b02b14134ac3fa83006a514d4bf721b2e79e2a806130fd2d130e3742644895"), looks := false }, kinds := [], alts := [], laidByText := true, laidKinds := [.data, .data, .data], laidTests := true, laidLooks := .later }
def PlainNeverUptoCardSaid : Prop := Claim7.holds Tryz.pinned (.plain (OpenSpec.upto plainNeverSpec)) plainNeverUptoCard

/-- THE SECOND FORM's CARD OF 'rosettelaw12.PlainRing'. -/
def plainRingUptoCard : Claim7 := { stood := { row := plainRingUptoRow, standIns := [], harness := (true, "81b02b14134ac3fa83006a514d4bf721b2e79e2a806130fd2d130e3742644895"), looks := false }, kinds := [], alts := [], laidByText := true, laidKinds := [.data, .data, .data], laidTests := true, laidLooks := .later }
def PlainRingUptoCardSaid : Prop := Claim7.holds Tryz.pinned (.plain (OpenSpec.upto plainRingSpec)) plainRingUptoCard
end Rows
end Go.Proofs.YtbcocfhfhblhcaaGreatDoor
