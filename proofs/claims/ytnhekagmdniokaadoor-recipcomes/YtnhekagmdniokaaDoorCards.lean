/-
  DERIVED. GIVEN WITH THE SEED: THE CARDS: each row of YtnhekagmdniokaaDoorRows.lean that lists a variable, with what it lists TIED to the program's text (the seventh form; the later family's looks); each row that meets fmt, with fmt's text TOLD by the authors' own Lean function (tested against real Go, not proved from fmt's source: count such statements apart). THE CARD IS WHAT COUNTS. Prove the row's statement (the work); the ties are given (YtnhekagmdniokaaDoorTie.lean); close each card by the builder's one call (the guide's Derived/Test/ToyasCard.lean, 'card_holds'). Laid BY PROGRAM, IN A SANDBOX (cutbox-door.mjs). By AI agents, Wed Nov 11 2026. No macro, syntax, notation, axiom, sorry.
-/
import Derived.Test.YtnhekagmdniokaaDoorRows
import GoSem.ClaimSeven
namespace Go.Proofs.YtnhekagmdniokaaDoor
namespace Rows

/-- THE TIED CARD OF 'rosettelaw16.RecipNumbers'. -/
def recipNumbersCard : Claim7 := { stood := { row := recipNumbersRow, standIns := [], harness := (true, "5372fad4c8c9a232bd8c3f3f7087c710f3c289e950dd4094819869ff6c6f6ba7"), looks := false }, kinds := [], alts := [], laidByText := true, laidKinds := [.data], laidTests := true, laidLooks := .later }
def RecipNumbersCardSaid : Prop := Claim7.holds Tryd.pinned (.plain (OpenSpec.ofChange recipNumbersSpec)) recipNumbersCard

/-- THE TIED CARD OF 'rosettelaw16.RecipComes'. -/
def recipComesCard : Claim7 := { stood := { row := recipComesRow, standIns := [], harness := (true, "5372fad4c8c9a232bd8c3f3f7087c710f3c289e950dd4094819869ff6c6f6ba7"), looks := false }, kinds := [], alts := [], laidByText := true, laidKinds := [.data], laidTests := true, laidLooks := .later }
def RecipComesCardSaid : Prop := Claim7.holds Tryd.pinned (.plain (OpenSpec.ofChange recipComesSpec)) recipComesCard

/-- THE SECOND FORM's CARD OF 'rosettelaw16.RecipNumbers'. -/
def recipNumbersUptoCard : Claim7 := { stood := { row := recipNumbersUptoRow, standIns := [], harness := (true, "5372fad4c8c9a232bd8c3f3f7087c710f3c289e950dd4094819869ff6c6f6ba7"), looks := false }, kinds := [], alts := [], laidByText := true, laidKinds := [.data], laidTests := true, laidLooks := .later }
def RecipNumbersUptoCardSaid : Prop := Claim7.holds Tryd.pinned (.plain (OpenSpec.upto recipNumbersSpec)) recipNumbersUptoCard

/-- THE SECOND FORM's CARD OF 'rosettelaw16.RecipComes'. -/
def recipComesUptoCard : Claim7 := { stood := { row := recipComesUptoRow, standIns := [], harness := (true, "5372fad4c8c9a232bd8c3f3f7087c710f3c289e950dd4094819869ff6c6f6ba7"), looks := false }, kinds := [], alts := [], laidByText := true, laidKinds := [.data], laidTests := true, laidLooks := .later }
def RecipComesUptoCardSaid : Prop := Claim7.holds Tryd.pinned (.plain (OpenSpec.upto recipComesSpec)) recipComesUptoCard
end Rows
end Go.Proofs.YtnhekagmdniokaaDoor
