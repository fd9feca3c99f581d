/-
  NARROWER THAN 'FOR EVERY INPUT', by the rows' own cells (each row's printed sentence says how): LimbNumbers: laid · LimbOne: laid · LimbTwo: laid · LimbGroup: laid · LimbOrder: laid · LimbShifts: laid.
  DERIVED. THE GIVEN ROWS OF THIS SEAT. 6 by the template 'for every input the law returns true; each argument reads behind the call as it read before'; 0 by the template 'total and deterministic' (their statements: YtniaelpbjgkfmaaDoorTotals.lean).
  GIVEN WITH THE SEED: the statements are not yours to turn. If you find one false, say at which input.
  Laid BY PROGRAM, IN A SANDBOX (cutbox-rows.mjs): the forced cells as the released guide's own fill.sh prints them over the translation f50834fe30cb144c… (all of the seat's roots in one cut). By AI agents, Wed Nov 11 2026. No macro, syntax, notation, axiom, sorry.
-/
import Derived.Test.YtniaelpbjgkfmaaDoorChecked
import GoSem.Claim
import GoSem.ClaimJoined
import GoSem.ClaimMapViews
import Derived.JoinedTies
import Derived.KernelRfl
namespace Go.Proofs.YtniaelpbjgkfmaaDoor
/- THE CELL 'sum', in the pinned program and in every row, IS THE sha256 OF THE DUMP (.gsa) THAT YtniaelpbjgkfmaaDoorProg.lean LOADS. Nothing in Lean hashes anything: it is a label: what it is worth is what the hold of that sum in a sandbox is worth. -/
noncomputable def Tryd.pinned : Pinned := { name := "ytniaelpbjgkfmaadoor", sum := "f50834fe30cb144c0a8934edf9347c0b2d9315a5c34377eaf6936bb857d3b19d", checked := Tryd.checked }
namespace Rows
def none {H : Type} : Left H := { results := [], args := [] }

/- WHAT THE LISTED PACKAGE-LEVEL VARIABLES READ AS WHEN THE CALL BEGINS. Each datum BY PROGRAM (the guide's laid-datum.mjs) off the statement by which the dump's own 'gosem.cut.vars' lays the variable. In a bare row this is a premise. The card (YtniaelpbjgkfmaaDoorCards.lean) ties it to the program's text. -/
def laid_math_bits_deBruijn64tab {H : Type} : DataW H := .agg [.lit (.int .u8 0), .lit (.int .u8 1), .lit (.int .u8 56), .lit (.int .u8 2), .lit (.int .u8 57), .lit (.int .u8 49), .lit (.int .u8 28), .lit (.int .u8 3), .lit (.int .u8 61), .lit (.int .u8 58), .lit (.int .u8 42), .lit (.int .u8 50), .lit (.int .u8 38), .lit (.int .u8 29), .lit (.int .u8 17), .lit (.int .u8 4), .lit (.int .u8 62), .lit (.int .u8 47), .lit (.int .u8 59), .lit (.int .u8 36), .lit (.int .u8 45), .lit (.int .u8 43), .lit (.int .u8 51), .lit (.int .u8 22), .lit (.int .u8 53), .lit (.int .u8 39), .lit (.int .u8 33), .lit (.int .u8 30), .lit (.int .u8 24), .lit (.int .u8 18), .lit (.int .u8 12), .lit (.int .u8 5), .lit (.int .u8 63), .lit (.int .u8 55), .lit (.int .u8 48), .lit (.int .u8 27), .lit (.int .u8 60), .lit (.int .u8 41), .lit (.int .u8 37), .lit (.int .u8 16), .lit (.int .u8 46), .lit (.int .u8 35), .lit (.int .u8 44), .lit (.int .u8 21), .lit (.int .u8 52), .lit (.int .u8 32), .lit (.int .u8 23), .lit (.int .u8 11), .lit (.int .u8 54), .lit (.int .u8 26), .lit (.int .u8 40), .lit (.int .u8 15), .lit (.int .u8 34), .lit (.int .u8 20), .lit (.int .u8 31), .lit (.int .u8 10), .lit (.int .u8 25), .lit (.int .u8 14), .lit (.int .u8 19), .lit (.int .u8 9), .lit (.int .u8 13), .lit (.int .u8 8), .lit (.int .u8 7), .lit (.int .u8 6)]

/-- 'rosettelaw13.LimbNumbers': WHATEVER THE INPUT: true; the input reads as it did. -/
def limbNumbersSpec : ChangeSpec := { name := "limbNumbers", fn := fun _ => fun
  | [] => { results := [.lit (.bool true)], args := [] }
  | _ => none }
def limbNumbersRow : OpenClaim := { program := "ytniaelpbjgkfmaadoor", sum := "f50834fe30cb144c0a8934edf9347c0b2d9315a5c34377eaf6936bb857d3b19d", func := "rosette/rosettelaw13.LimbNumbers", spec := "limbNumbers", inPlace := ["math/bits.Add64", "math/bits.Sub64"], unfollowed := true, recurses := true, named := ["math/bits.deBruijn64tab"], apart := false, laid := [("math/bits.deBruijn64tab", laid_math_bits_deBruijn64tab)] }
def LimbNumbersSaid : Prop := limbNumbersRow.holds Tryd.pinned (OpenSpec.ofChange limbNumbersSpec)

/-- ITS FALSE NEIGHBOUR: 'it returns false'. Refute it at one input. -/
def limbNumbersWrong : ChangeSpec := { name := "limbNumbers", fn := fun _ => fun
  | [] => { results := [.lit (.bool false)], args := [] }
  | _ => none }
def LimbNumbersWrongFalsely : Prop := limbNumbersRow.holds Tryd.pinned (OpenSpec.ofChange limbNumbersWrong)

/-- 'rosettelaw13.LimbOne': WHATEVER THE INPUT: true; the input reads as it did. -/
def limbOneSpec : ChangeSpec := { name := "limbOne", fn := fun _ => fun
  | [d1, d2, d3] => { results := [.lit (.bool true)], args := [d1, d2, d3] }
  | _ => none }
def limbOneRow : OpenClaim := { program := "ytniaelpbjgkfmaadoor", sum := "f50834fe30cb144c0a8934edf9347c0b2d9315a5c34377eaf6936bb857d3b19d", func := "rosette/rosettelaw13.LimbOne", spec := "limbOne", inPlace := ["math/bits.Add64", "math/bits.Sub64"], unfollowed := true, recurses := true, named := ["math/bits.deBruijn64tab"], apart := false, laid := [("math/bits.deBruijn64tab", laid_math_bits_deBruijn64tab)] }
def LimbOneSaid : Prop := limbOneRow.holds Tryd.pinned (OpenSpec.ofChange limbOneSpec)

/-- ITS FALSE NEIGHBOUR: 'it returns false'. Refute it at one input. -/
def limbOneWrong : ChangeSpec := { name := "limbOne", fn := fun _ => fun
  | [d1, d2, d3] => { results := [.lit (.bool false)], args := [d1, d2, d3] }
  | _ => none }
def LimbOneWrongFalsely : Prop := limbOneRow.holds Tryd.pinned (OpenSpec.ofChange limbOneWrong)

/-- 'rosettelaw13.LimbTwo': WHATEVER THE INPUT: true; the input reads as it did. -/
def limbTwoSpec : ChangeSpec := { name := "limbTwo", fn := fun _ => fun
  | [d1, d2] => { results := [.lit (.bool true)], args := [d1, d2] }
  | _ => none }
def limbTwoRow : OpenClaim := { program := "ytniaelpbjgkfmaadoor", sum := "f50834fe30cb144c0a8934edf9347c0b2d9315a5c34377eaf6936bb857d3b19d", func := "rosette/rosettelaw13.LimbTwo", spec := "limbTwo", inPlace := ["math/bits.Add64", "math/bits.Sub64"], unfollowed := true, recurses := true, named := ["math/bits.deBruijn64tab"], apart := false, laid := [("math/bits.deBruijn64tab", laid_math_bits_deBruijn64tab)] }
def LimbTwoSaid : Prop := limbTwoRow.holds Tryd.pinned (OpenSpec.ofChange limbTwoSpec)

/-- ITS FALSE NEIGHBOUR: 'it returns false'. Refute it at one input. -/
def limbTwoWrong : ChangeSpec := { name := "limbTwo", fn := fun _ => fun
  | [d1, d2] => { results := [.lit (.bool false)], args := [d1, d2] }
  | _ => none }
def LimbTwoWrongFalsely : Prop := limbTwoRow.holds Tryd.pinned (OpenSpec.ofChange limbTwoWrong)

/-- 'rosettelaw13.LimbGroup': WHATEVER THE INPUT: true; the input reads as it did. -/
def limbGroupSpec : ChangeSpec := { name := "limbGroup", fn := fun _ => fun
  | [d1, d2, d3] => { results := [.lit (.bool true)], args := [d1, d2, d3] }
  | _ => none }
def limbGroupRow : OpenClaim := { program := "ytniaelpbjgkfmaadoor", sum := "f50834fe30cb144c0a8934edf9347c0b2d9315a5c34377eaf6936bb857d3b19d", func := "rosette/rosettelaw13.LimbGroup", spec := "limbGroup", inPlace := ["math/bits.Add64", "math/bits.Sub64"], unfollowed := true, recurses := true, named := ["math/bits.deBruijn64tab"], apart := false, laid := [("math/bits.deBruijn64tab", laid_math_bits_deBruijn64tab)] }
def LimbGroupSaid : Prop := limbGroupRow.holds Tryd.pinned (OpenSpec.ofChange limbGroupSpec)

/-- ITS FALSE NEIGHBOUR: 'it returns false'. Refute it at one input. -/
def limbGroupWrong : ChangeSpec := { name := "limbGroup", fn := fun _ => fun
  | [d1, d2, d3] => { results := [.lit (.bool false)], args := [d1, d2, d3] }
  | _ => none }
def LimbGroupWrongFalsely : Prop := limbGroupRow.holds Tryd.pinned (OpenSpec.ofChange limbGroupWrong)

/-- 'rosettelaw13.LimbOrder': WHATEVER THE INPUT: true; the input reads as it did. -/
def limbOrderSpec : ChangeSpec := { name := "limbOrder", fn := fun _ => fun
  | [d1, d2, d3, d4, d5] => { results := [.lit (.bool true)], args := [d1, d2, d3, d4, d5] }
  | _ => none }
def limbOrderRow : OpenClaim := { program := "ytniaelpbjgkfmaadoor", sum := "f50834fe30cb144c0a8934edf9347c0b2d9315a5c34377eaf6936bb857d3b19d", func := "rosette/rosettelaw13.LimbOrder", spec := "limbOrder", inPlace := ["math/bits.Add64", "math/bits.Sub64"], unfollowed := true, recurses := true, named := ["math/bits.deBruijn64tab"], apart := false, laid := [("math/bits.deBruijn64tab", laid_math_bits_deBruijn64tab)] }
def LimbOrderSaid : Prop := limbOrderRow.holds Tryd.pinned (OpenSpec.ofChange limbOrderSpec)

/-- ITS FALSE NEIGHBOUR: 'it returns false'. Refute it at one input. -/
def limbOrderWrong : ChangeSpec := { name := "limbOrder", fn := fun _ => fun
  | [d1, d2, d3, d4, d5] => { results := [.lit (.bool false)], args := [d1, d2, d3, d4, d5] }
  | _ => none }
def LimbOrderWrongFalsely : Prop := limbOrderRow.holds Tryd.pinned (OpenSpec.ofChange limbOrderWrong)

/-- 'rosettelaw13.LimbShifts': WHATEVER THE INPUT: true; the input reads as it did. -/
def limbShiftsSpec : ChangeSpec := { name := "limbShifts", fn := fun _ => fun
  | [d1, d2, d3] => { results := [.lit (.bool true)], args := [d1, d2, d3] }
  | _ => none }
def limbShiftsRow : OpenClaim := { program := "ytniaelpbjgkfmaadoor", sum := "f50834fe30cb144c0a8934edf9347c0b2d9315a5c34377eaf6936bb857d3b19d", func := "rosette/rosettelaw13.LimbShifts", spec := "limbShifts", inPlace := ["math/bits.Add64", "math/bits.Sub64"], unfollowed := true, recurses := true, named := ["math/bits.deBruijn64tab"], apart := false, laid := [("math/bits.deBruijn64tab", laid_math_bits_deBruijn64tab)] }
def LimbShiftsSaid : Prop := limbShiftsRow.holds Tryd.pinned (OpenSpec.ofChange limbShiftsSpec)

/-- ITS FALSE NEIGHBOUR: 'it returns false'. Refute it at one input. -/
def limbShiftsWrong : ChangeSpec := { name := "limbShifts", fn := fun _ => fun
  | [d1, d2, d3] => { results := [.lit (.bool false)], args := [d1, d2, d3] }
  | _ => none }
def LimbShiftsWrongFalsely : Prop := limbShiftsRow.holds Tryd.pinned (OpenSpec.ofChange limbShiftsWrong)

/- THE SECOND FORM. 'bulk': how many values and letters a reading holds, each counted each time it is reached (what is shared counts as often as it is met; a slice's spare places count too). A statement '..UptoSaid' is the law's where the arguments, and the package variables that the reading takes, are together of bulk at most 1048576: NARROWER than '..Said'. Prove '..Said' where nothing that the law and all that it calls make is longer than what came in: it says more and counts as full. Else prove '..UptoSaid'. A law counts once. -/
mutual
def uptoBulk {H : Type} : DataW H → Nat
  | .lit (.string bytes) => bytes.length + 1
  | .lit _ => 1
  | .nil => 1
  | .ptr d => uptoBulk d + 1
  | .slice elems spare => uptoBulkAll elems + uptoBulkAll spare + 1
  | .agg parts => uptoBulkAll parts + 1
  | .iface _ d => uptoBulk d + 1
  | .map entries => uptoBulkEntries entries + 1
  | .held _ => 1
def uptoBulkAll {H : Type} : List (DataW H) → Nat
  | [] => 0
  | d :: r => uptoBulk d + uptoBulkAll r
def uptoBulkEntries {H : Type} : List (Lit × DataW H) → Nat
  | [] => 0
  | x :: r => uptoBulkEntry x + uptoBulkEntries r
def uptoBulkEntry {H : Type} : Lit × DataW H → Nat
  | (.string bytes, d) => bytes.length + uptoBulk d + 1
  | (_, d) => uptoBulk d + 1
 end
def uptoSmall : (H : Type) → List (DataW H) → Bool := fun _ ds => decide (uptoBulkAll ds ≤ 1048576)
def OpenSpec.upto (s : _root_.Go.ChangeSpec) : _root_.Go.OpenSpec := { _root_.Go.OpenSpec.ofChange s with cond := some uptoSmall }

/-- 'rosettelaw13.LimbNumbers', WHERE WHAT IT READS IS OF BULK AT MOST 1048576: true; the input reads as it did. -/
def limbNumbersUptoRow : OpenClaim := { program := "ytniaelpbjgkfmaadoor", sum := "f50834fe30cb144c0a8934edf9347c0b2d9315a5c34377eaf6936bb857d3b19d", func := "rosette/rosettelaw13.LimbNumbers", spec := "limbNumbers", inPlace := ["math/bits.Add64", "math/bits.Sub64"], unfollowed := true, recurses := true, named := ["math/bits.deBruijn64tab"], apart := false, laid := [("math/bits.deBruijn64tab", laid_math_bits_deBruijn64tab)], narrowed := true }
def LimbNumbersUptoSaid : Prop := limbNumbersUptoRow.holds Tryd.pinned (OpenSpec.upto limbNumbersSpec)

/-- 'rosettelaw13.LimbOne', WHERE WHAT IT READS IS OF BULK AT MOST 1048576: true; the input reads as it did. -/
def limbOneUptoRow : OpenClaim := { program := "ytniaelpbjgkfmaadoor", sum := "f50834fe30cb144c0a8934edf9347c0b2d9315a5c34377eaf6936bb857d3b19d", func := "rosette/rosettelaw13.LimbOne", spec := "limbOne", inPlace := ["math/bits.Add64", "math/bits.Sub64"], unfollowed := true, recurses := true, named := ["math/bits.deBruijn64tab"], apart := false, laid := [("math/bits.deBruijn64tab", laid_math_bits_deBruijn64tab)], narrowed := true }
def LimbOneUptoSaid : Prop := limbOneUptoRow.holds Tryd.pinned (OpenSpec.upto limbOneSpec)

/-- 'rosettelaw13.LimbTwo', WHERE WHAT IT READS IS OF BULK AT MOST 1048576: true; the input reads as it did. -/
def limbTwoUptoRow : OpenClaim := { program := "ytniaelpbjgkfmaadoor", sum := "f50834fe30cb144c0a8934edf9347c0b2d9315a5c34377eaf6936bb857d3b19d", func := "rosette/rosettelaw13.LimbTwo", spec := "limbTwo", inPlace := ["math/bits.Add64", "math/bits.Sub64"], unfollowed := true, recurses := true, named := ["math/bits.deBruijn64tab"], apart := false, laid := [("math/bits.deBruijn64tab", laid_math_bits_deBruijn64tab)], narrowed := true }
def LimbTwoUptoSaid : Prop := limbTwoUptoRow.holds Tryd.pinned (OpenSpec.upto limbTwoSpec)

/-- 'rosettelaw13.LimbGroup', WHERE WHAT IT READS IS OF BULK AT MOST 1048576: true; the input reads as it did. -/
def limbGroupUptoRow : OpenClaim := { program := "ytniaelpbjgkfmaadoor", sum := "f50834fe30cb144c0a8934edf9347c0b2d9315a5c34377eaf6936bb857d3b19d", func := "rosette/rosettelaw13.LimbGroup", spec := "limbGroup", inPlace := ["math/bits.Add64", "math/bits.Sub64"], unfollowed := true, recurses := true, named := ["math/bits.deBruijn64tab"], apart := false, laid := [("math/bits.deBruijn64tab", laid_math_bits_deBruijn64tab)], narrowed := true }
def LimbGroupUptoSaid : Prop := limbGroupUptoRow.holds Tryd.pinned (OpenSpec.upto limbGroupSpec)

/-- 'rosettelaw13.LimbOrder', WHERE WHAT IT READS IS OF BULK AT MOST 1048576: true; the input reads as it did. -/
def limbOrderUptoRow : OpenClaim := { program := "ytniaelpbjgkfmaadoor", sum := "f50834fe30cb144c0a8934edf9347c0b2d9315a5c34377eaf6936bb857d3b19d", func := "rosette/rosettelaw13.LimbOrder", spec := "limbOrder", inPlace := ["math/bits.Add64", "math/bits.Sub64"], unfollowed := true, recurses := true, named := ["math/bits.deBruijn64tab"], apart := false, laid := [("math/bits.deBruijn64tab", laid_math_bits_deBruijn64tab)], narrowed := true }
def LimbOrderUptoSaid : Prop := limbOrderUptoRow.holds Tryd.pinned (OpenSpec.upto limbOrderSpec)

/-- 'rosettelaw13.LimbShifts', WHERE WHAT IT READS IS OF BULK AT MOST 1048576: true; the input reads as it did. -/
def limbShiftsUptoRow : OpenClaim := { program := "ytniaelpbjgkfmaadoor", sum := "f50834fe30cb144c0a8934edf9347c0b2d9315a5c34377eaf6936bb857d3b19d", func := "rosette/rosettelaw13.LimbShifts", spec := "limbShifts", inPlace := ["math/bits.Add64", "math/bits.Sub64"], unfollowed := true, recurses := true, named := ["math/bits.deBruijn64tab"], apart := false, laid := [("math/bits.deBruijn64tab", laid_math_bits_deBruijn64tab)], narrowed := true }
def LimbShiftsUptoSaid : Prop := limbShiftsUptoRow.holds Tryd.pinned (OpenSpec.upto limbShiftsSpec)

end Rows
end Go.Proofs.YtniaelpbjgkfmaaDoor
