/-
  DERIVED. GIVEN WITH THE SEED: THE CARDS: each row of YtfbgckgemfkioaaDoorRows.lean that lists a variable, with what it lists TIED to the program's text (the seventh form; the later family's looks); each row that meets fmt, with fmt's text TOLD by the authors' own Lean function (tested against real Go, not proved from fmt's source: count such statements apart). THE CARD IS WHAT COUNTS. Prove the row's statement (the work); the ties are given (YtfbgckgemfkioaaDoorTie.lean); close each card by the builder's one call (the guide's Derived/Test/ToyasCard.lean, 'card_holds'). Laid BY PROGRAM, IN A SANDBOX (cutbox-door.mjs). By AI agents, Wed Nov 11 2026. No macro, syntax, notation, axiom, sorry.
-/
import Derived.Test.YtfbgckgemfkioaaDoorRows
import GoSem.ClaimSeven
namespace Go.Proofs.YtfbgckgemfkioaaDoor
namespace Rows

/-- THE TIED CARD OF 'rosettelaw14.CutSums'. -/
def cutSumsCard : Claim7 := { stood := { row := cutSumsRow, standIns := [], harness := (true, "bc2617f5b993bbaa4def40e4f4eda77b7748558011e4bbfbc43e0e86010ea4d0"), looks := false }, kinds := [], alts := [], laidByText := true, laidKinds := [.data], laidTests := true, laidLooks := .later }
def CutSumsCardSaid : Prop := Claim7.holds Tryd.pinned (.plain (OpenSpec.ofChange cutSumsSpec)) cutSumsCard

/-- THE SECOND FORM's CARD OF 'rosettelaw14.CutSums'. -/
def cutSumsUptoCard : Claim7 := { stood := { row := cutSumsUptoRow, standIns := [], harness := (true, "bc2617f5b993bbaa4def40e4f4eda77b7748558011e4bbfbc43e0e86010ea4d0"), looks := false }, kinds := [], alts := [], laidByText := true, laidKinds := [.data], laidTests := true, laidLooks := .later }
def CutSumsUptoCardSaid : Prop := Claim7.holds Tryd.pinned (.plain (OpenSpec.upto cutSumsSpec)) cutSumsUptoCard
end Rows
end Go.Proofs.YtfbgckgemfkioaaDoor
