/-
  DERIVED. GIVEN WITH THE SEED: THE CARDS: each row of YtobceegpcimdgaaDoorRows.lean that lists a variable, with what it lists TIED to the program's text (the seventh form; the later family's looks); each row that meets fmt, with fmt's text TOLD by the authors' own Lean function (tested against real Go, not proved from fmt's source: count such statements apart). THE CARD IS WHAT COUNTS. Prove the row's statement (the work); the ties are given (YtobceegpcimdgaaDoorTie.lean); close each card by the builder's one call (the guide's Derived/Test/ToyasCard.lean, 'card_holds'). Laid BY PROGRAM, IN A SANDBOX (cutbox-door.mjs). By AI agents, Wed Nov 11 2026. No macro, syntax, notation, axiom, sorry.
-/
import Derived.Test.YtobceegpcimdgaaDoorRows
import GoSem.ClaimSeven
namespace Go.Proofs.YtobceegpcimdgaaDoor
namespace Rows

/-- THE TIED CARD OF 'rosettelaw17.DivideGreat'. -/
def divideGreatCard : Claim7 := { stood := { row := divideGreatRow, standIns := [], harness := (true, "b5ad6a58bf9aecd0ad34113de9930af6cbed9009bb91834fa8c6ce2ff9457281"), looks := false }, kinds := [], alts := [], laidByText := true, laidKinds := [.data], laidTests := true, laidLooks := .later }
def DivideGreatCardSaid : Prop := Claim7.holds Tryd.pinned (.plain (OpenSpec.ofChange divideGreatSpec)) divideGreatCard

/-- THE SECOND FORM's CARD OF 'rosettelaw17.DivideGreat'. -/
def divideGreatUptoCard : Claim7 := { stood := { row := divideGreatUptoRow, standIns := [], harness := (true, "b5ad6a58bf9aecd0ad34113de9930af6cbed9009bb91834fa8c6ce2ff9457281"), looks := false }, kinds := [], alts := [], laidByText := true, laidKinds := [.data], laidTests := true, laidLooks := .later }
def DivideGreatUptoCardSaid : Prop := Claim7.holds Tryd.pinned (.plain (OpenSpec.upto divideGreatSpec)) divideGreatUptoCard
end Rows
end Go.Proofs.YtobceegpcimdgaaDoor
