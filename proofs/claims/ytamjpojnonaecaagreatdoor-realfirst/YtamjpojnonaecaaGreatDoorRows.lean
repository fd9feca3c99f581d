/-
  NARROWER THAN 'FOR EVERY INPUT', by the rows' own cells (each row's printed sentence says how): TurnNumbers: laid · RealNumbers: laid · RealEven: laid · RealHalves: laid · RealFirst: laid · RealSpares: laid.
  DERIVED. THE GIVEN ROWS OF THIS SEAT. 6 by the template 'for every input the law returns true; each argument reads behind the call as it read before'; 0 by the template 'total and deterministic' (their statements: YtamjpojnonaecaaGreatDoorTotals.lean).
  GIVEN WITH THE SEED: the statements are not yours to turn. If you find one false, say at which input.
  Laid BY PROGRAM, IN A SANDBOX (cutbox-rows.mjs): the forced cells as the released guide's own fill.sh prints them over the translation b03720e6c0733aa3… (all of the seat's roots in one cut). By AI agents, Wed Nov 11 2026. No macro, syntax, notation, axiom, sorry.
-/
import Derived.Test.YtamjpojnonaecaaGreatDoorChecked
import GoSem.Claim
import GoSem.ClaimJoined
import GoSem.ClaimMapViews
import Derived.JoinedTies
import Derived.KernelRfl
namespace Go.Proofs.YtamjpojnonaecaaGreatDoor
/- THE CELL 'sum', in the pinned program and in every row, IS THE sha256 OF THE DUMP (.gsa) THAT YtamjpojnonaecaaGreatDoorProg.lean LOADS. Nothing in Lean hashes anything: it is a label: what it is worth is what the hold of that sum in a sandbox is worth. -/
noncomputable def Tryz.pinned : Pinned := { name := "ytamjpojnonaecaagreatdoor", sum := "b03720e6c0733aa3586b48d26e3abd14ddab15f01095e4c32fae2cf82437c81c", checked := Tryz.checked }
namespace Rows
def none {H : Type} : Left H := { results := [], args := [] }

/- WHAT THE LISTED PACKAGE-LEVEL VARIABLES READ AS WHEN THE CALL BEGINS. Each datum BY PROGRAM (the guide's laid-datum.mjs) off the statement by which the dump's own 'gosem.cut.vars' lays the variable. In a bare row this is a premise. The card (YtamjpojnonaecaaGreatDoorCards.lean) ties it to the program's text. -/
def laid_math_bits_deBruijn64tab {H : Type} : DataW H := .agg [.lit (.int .u8 0), .lit (.int .u8 1), .lit (.int .u8 56), .lit (.int .u8 2), .lit (.int .u8 57), .lit (.int .u8 49), .lit (.int .u8 28), .lit (.int .u8 3), .lit (.int .u8 61), .lit (.int .u8 58), .lit (.int .u8 42), .lit (.int .u8 50), .lit (.int .u8 38), .lit (.int .u8 29), .lit (.int .u8 17), .lit (.int .u8 4), .lit (.int .u8 62), .lit (.int .u8 47), .lit (.int .u8 59), .lit (.int .u8 36), .lit (.int .u8 45), .lit (.int .u8 43), .lit (.int .u8 51), .lit (.int .u8 22), .lit (.int .u8 53), .lit (.int .u8 39), .lit (.int .u8 33), .lit (.int .u8 30), .lit (.int .u8 24), .lit (.int .u8 18), .lit (.int .u8 12), .lit (.int .u8 5), .lit (.int .u8 63), .lit (.int .u8 55), .lit (.int .u8 48), .lit (.int .u8 27), .lit (.int .u8 60), .lit (.int .u8 41), .lit (.int .u8 37), .lit (.int .u8 16), .lit (.int .u8 46), .lit (.int .u8 35), .lit (.int .u8 44), .lit (.int .u8 21), .lit (.int .u8 52), .lit (.int .u8 32), .lit (.int .u8 23), .lit (.int .u8 11), .lit (.int .u8 54), .lit (.int .u8 26), .lit (.int .u8 40), .lit (.int .u8 15), .lit (.int .u8 34), .lit (.int .u8 20), .lit (.int .u8 31), .lit (.int .u8 10), .lit (.int .u8 25), .lit (.int .u8 14), .lit (.int .u8 19), .lit (.int .u8 9), .lit (.int .u8 13), .lit (.int .u8 8), .lit (.int .u8 7), .lit (.int .u8 6)]
def laid_rosette_shuffle_fours {H : Type} : DataW H := .agg [.lit (.int .i64 0), .lit (.int .i64 8), .lit (.int .i64 4), .lit (.int .i64 12), .lit (.int .i64 2), .lit (.int .i64 10), .lit (.int .i64 6), .lit (.int .i64 14), .lit (.int .i64 1), .lit (.int .i64 9), .lit (.int .i64 5), .lit (.int .i64 13), .lit (.int .i64 3), .lit (.int .i64 11), .lit (.int .i64 7), .lit (.int .i64 15)]

/-- 'rosettelaw07.TurnNumbers': WHATEVER THE INPUT: true; the input reads as it did. -/
def turnNumbersSpec : ChangeSpec := { name := "turnNumbers", fn := fun _ => fun
  | [] => { results := [.lit (.bool true)], args := [] }
  | _ => none }
def turnNumbersRow : OpenClaim := { program := "ytamjpojnonaecaagreatdoor", sum := "b03720e6c0733aa3586b48d26e3abd14ddab15f01095e4c32fae2cf82437c81c", func := "rosette/rosettelaw07.TurnNumbers", spec := "turnNumbers", inPlace := ["math.Float64bits", "math.Float64frombits", "math/bits.Add64", "math/bits.Sub64"], unfollowed := true, recurses := true, named := ["math/bits.deBruijn64tab", "math/bits.divideError", "math/bits.overflowError", "rosette/shuffle.fours"], apart := false, laid := [("math/bits.deBruijn64tab", laid_math_bits_deBruijn64tab), ("rosette/shuffle.fours", laid_rosette_shuffle_fours)] }
def TurnNumbersSaid : Prop := turnNumbersRow.holds Tryz.pinned (OpenSpec.ofChange turnNumbersSpec)

/-- ITS FALSE NEIGHBOUR: 'it returns false'. Refute it at one input. -/
def turnNumbersWrong : ChangeSpec := { name := "turnNumbers", fn := fun _ => fun
  | [] => { results := [.lit (.bool false)], args := [] }
  | _ => none }
def TurnNumbersWrongFalsely : Prop := turnNumbersRow.holds Tryz.pinned (OpenSpec.ofChange turnNumbersWrong)

/-- 'rosettelaw10.RealNumbers': WHATEVER THE INPUT: true; the input reads as it did. -/
def realNumbersSpec : ChangeSpec := { name := "realNumbers", fn := fun _ => fun
  | [] => { results := [.lit (.bool true)], args := [] }
  | _ => none }
def realNumbersRow : OpenClaim := { program := "ytamjpojnonaecaagreatdoor", sum := "b03720e6c0733aa3586b48d26e3abd14ddab15f01095e4c32fae2cf82437c81c", func := "rosette/rosettelaw10.RealNumbers", spec := "realNumbers", inPlace := ["math.Float64bits", "math.Float64frombits", "math/bits.Add64", "math/bits.Sub64"], unfollowed := true, recurses := true, named := ["math/bits.deBruijn64tab", "math/bits.divideError", "math/bits.overflowError", "rosette/shuffle.fours"], apart := false, laid := [("math/bits.deBruijn64tab", laid_math_bits_deBruijn64tab), ("rosette/shuffle.fours", laid_rosette_shuffle_fours)] }
def RealNumbersSaid : Prop := realNumbersRow.holds Tryz.pinned (OpenSpec.ofChange realNumbersSpec)

/-- ITS FALSE NEIGHBOUR: 'it returns false'. Refute it at one input. -/
def realNumbersWrong : ChangeSpec := { name := "realNumbers", fn := fun _ => fun
  | [] => { results := [.lit (.bool false)], args := [] }
  | _ => none }
def RealNumbersWrongFalsely : Prop := realNumbersRow.holds Tryz.pinned (OpenSpec.ofChange realNumbersWrong)

/-- 'rosettelaw10.RealEven': WHATEVER THE INPUT: true; the input reads as it did. -/
def realEvenSpec : ChangeSpec := { name := "realEven", fn := fun _ => fun
  | [d1, d2] => { results := [.lit (.bool true)], args := [d1, d2] }
  | _ => none }
def realEvenRow : OpenClaim := { program := "ytamjpojnonaecaagreatdoor", sum := "b03720e6c0733aa3586b48d26e3abd14ddab15f01095e4c32fae2cf82437c81c", func := "rosette/rosettelaw10.RealEven", spec := "realEven", inPlace := ["math.Float64bits", "math.Float64frombits", "math/bits.Add64", "math/bits.Sub64"], unfollowed := true, recurses := true, named := ["math/bits.deBruijn64tab", "math/bits.divideError", "math/bits.overflowError", "rosette/shuffle.fours"], apart := false, laid := [("math/bits.deBruijn64tab", laid_math_bits_deBruijn64tab), ("rosette/shuffle.fours", laid_rosette_shuffle_fours)] }
def RealEvenSaid : Prop := realEvenRow.holds Tryz.pinned (OpenSpec.ofChange realEvenSpec)

/-- ITS FALSE NEIGHBOUR: 'it returns false'. Refute it at one input. -/
def realEvenWrong : ChangeSpec := { name := "realEven", fn := fun _ => fun
  | [d1, d2] => { results := [.lit (.bool false)], args := [d1, d2] }
  | _ => none }
def RealEvenWrongFalsely : Prop := realEvenRow.holds Tryz.pinned (OpenSpec.ofChange realEvenWrong)

/-- 'rosettelaw10.RealHalves': WHATEVER THE INPUT: true; the input reads as it did. -/
def realHalvesSpec : ChangeSpec := { name := "realHalves", fn := fun _ => fun
  | [d1, d2, d3] => { results := [.lit (.bool true)], args := [d1, d2, d3] }
  | _ => none }
def realHalvesRow : OpenClaim := { program := "ytamjpojnonaecaagreatdoor", sum := "b03720e6c0733aa3586b48d26e3abd14ddab15f01095e4c32fae2cf82437c81c", func := "rosette/rosettelaw10.RealHalves", spec := "realHalves", inPlace := ["math.Float64bits", "math.Float64frombits", "math/bits.Add64", "math/bits.Sub64"], unfollowed := true, recurses := true, named := ["math/bits.deBruijn64tab", "math/bits.divideError", "math/bits.overflowError", "rosette/shuffle.fours"], apart := false, laid := [("math/bits.deBruijn64tab", laid_math_bits_deBruijn64tab), ("rosette/shuffle.fours", laid_rosette_shuffle_fours)] }
def RealHalvesSaid : Prop := realHalvesRow.holds Tryz.pinned (OpenSpec.ofChange realHalvesSpec)

/-- ITS FALSE NEIGHBOUR: 'it returns false'. Refute it at one input. -/
def realHalvesWrong : ChangeSpec := { name := "realHalves", fn := fun _ => fun
  | [d1, d2, d3] => { results := [.lit (.bool false)], args := [d1, d2, d3] }
  | _ => none }
def RealHalvesWrongFalsely : Prop := realHalvesRow.holds Tryz.pinned (OpenSpec.ofChange realHalvesWrong)

/-- 'rosettelaw10.RealFirst': WHATEVER THE INPUT: true; the input reads as it did. -/
def realFirstSpec : ChangeSpec := { name := "realFirst", fn := fun _ => fun
  | [d1, d2] => { results := [.lit (.bool true)], args := [d1, d2] }
  | _ => none }
def realFirstRow : OpenClaim := { program := "ytamjpojnonaecaagreatdoor", sum := "b03720e6c0733aa3586b48d26e3abd14ddab15f01095e4c32fae2cf82437c81c", func := "rosette/rosettelaw10.RealFirst", spec := "realFirst", inPlace := ["math.Float64bits", "math.Float64frombits", "math/bits.Add64", "math/bits.Sub64"], unfollowed := true, recurses := true, named := ["math/bits.deBruijn64tab", "math/bits.divideError", "math/bits.overflowError", "rosette/shuffle.fours"], apart := false, laid := [("math/bits.deBruijn64tab", laid_math_bits_deBruijn64tab), ("rosette/shuffle.fours", laid_rosette_shuffle_fours)] }
def RealFirstSaid : Prop := realFirstRow.holds Tryz.pinned (OpenSpec.ofChange realFirstSpec)

/-- ITS FALSE NEIGHBOUR: 'it returns false'. Refute it at one input. -/
def realFirstWrong : ChangeSpec := { name := "realFirst", fn := fun _ => fun
  | [d1, d2] => { results := [.lit (.bool false)], args := [d1, d2] }
  | _ => none }
def RealFirstWrongFalsely : Prop := realFirstRow.holds Tryz.pinned (OpenSpec.ofChange realFirstWrong)

/-- 'rosettelaw10.RealSpares': WHATEVER THE INPUT: true; the input reads as it did. -/
def realSparesSpec : ChangeSpec := { name := "realSpares", fn := fun _ => fun
  | [d1, d2] => { results := [.lit (.bool true)], args := [d1, d2] }
  | _ => none }
def realSparesRow : OpenClaim := { program := "ytamjpojnonaecaagreatdoor", sum := "b03720e6c0733aa3586b48d26e3abd14ddab15f01095e4c32fae2cf82437c81c", func := "rosette/rosettelaw10.RealSpares", spec := "realSpares", inPlace := ["math.Float64bits", "math.Float64frombits", "math/bits.Add64", "math/bits.Sub64"], unfollowed := true, recurses := true, named := ["math/bits.deBruijn64tab", "math/bits.divideError", "math/bits.overflowError", "rosette/shuffle.fours"], apart := false, laid := [("math/bits.deBruijn64tab", laid_math_bits_deBruijn64tab), ("rosette/shuffle.fours", laid_rosette_shuffle_fours)] }
def RealSparesSaid : Prop := realSparesRow.holds Tryz.pinned (OpenSpec.ofChange realSparesSpec)

/-- ITS FALSE NEIGHBOUR: 'it returns false'. Refute it at one input. -/
def realSparesWrong : ChangeSpec := { name := "realSpares", fn := fun _ => fun
  | [d1, d2] => { results := [.lit (.bool false)], args := [d1, d2] }
  | _ => none }
def RealSparesWrongFalsely : Prop := realSparesRow.holds Tryz.pinned (OpenSpec.ofChange realSparesWrong)

/- THE SECOND FORM. 'bulk': how many values and letters a reading holds, each counted each time it is reached (what is shared counts as often as it is met; a slice's spare places count too). A statement '..UptoSaid' is the law's where the arguments, and the package variables that the reading takes, are together of bulk at most 1048576: NARROWER than '..Said'. Prove '..Said' where nothing that the law and all that it calls make is longer than what came in: it says more and counts as full. Else prove '..UptoSaid'. A law counts once. -/
mutual
def uptoBulk {H : Type} : DataW H → Nat
  | .lit (.string bytes) => bytes.length + 1
  | .lit _ => 1
  | .nil => 1
  | .ptr d => uptoBulk d + 1
  | .slice elems spare => uptoBulkAll elems + uptoBulkAll spare + 1
  | .agg parts => uptoBulkAll parts + 1
  | .iface _ d => uptoBulk d + 1
  | .map entries => uptoBulkEntries entries + 1
  | .held _ => 1
def uptoBulkAll {H : Type} : List (DataW H) → Nat
  | [] => 0
  | d :: r => uptoBulk d + uptoBulkAll r
def uptoBulkEntries {H : Type} : List (Lit × DataW H) → Nat
  | [] => 0
  | x :: r => uptoBulkEntry x + uptoBulkEntries r
def uptoBulkEntry {H : Type} : Lit × DataW H → Nat
  | (.string bytes, d) => bytes.length + uptoBulk d + 1
  | (_, d) => uptoBulk d + 1
 end
def uptoSmall : (H : Type) → List (DataW H) → Bool := fun _ ds => decide (uptoBulkAll ds ≤ 1048576)
def OpenSpec.upto (s : _root_.Go.ChangeSpec) : _root_.Go.OpenSpec := { _root_.Go.OpenSpec.ofChange s with cond := some uptoSmall }

/-- 'rosettelaw07.TurnNumbers', WHERE WHAT IT READS IS OF BULK AT MOST 1048576: true; the input reads as it did. -/
def turnNumbersUptoRow : OpenClaim := { program := "ytamjpojnonaecaagreatdoor", sum := "b03720e6c0733aa3586b48d26e3abd14ddab15f01095e4c32fae2cf82437c81c", func := "rosette/rosettelaw07.TurnNumbers", spec := "turnNumbers", inPlace := ["math.Float64bits", "math.Float64frombits", "math/bits.Add64", "math/bits.Sub64"], unfollowed := true, recurses := true, named := ["math/bits.deBruijn64tab", "math/bits.divideError", "math/bits.overflowError", "rosette/shuffle.fours"], apart := false, laid := [("math/bits.deBruijn64tab", laid_math_bits_deBruijn64tab), ("rosette/shuffle.fours", laid_rosette_shuffle_fours)], narrowed := true }
def TurnNumbersUptoSaid : Prop := turnNumbersUptoRow.holds Tryz.pinned (OpenSpec.upto turnNumbersSpec)

/-- 'rosettelaw10.RealNumbers', WHERE WHAT IT READS IS OF BULK AT MOST 1048576: true; the input reads as it did. -/
def realNumbersUptoRow : OpenClaim := { program := "ytamjpojnonaecaagreatdoor", sum := "b03720e6c0733aa3586b48d26e3abd14ddab15f01095e4c32fae2cf82437c81c", func := "rosette/rosettelaw10.RealNumbers", spec := "realNumbers", inPlace := ["math.Float64bits", "math.Float64frombits", "math/bits.Add64", "math/bits.Sub64"], unfollowed := true, recurses := true, named := ["math/bits.deBruijn64tab", "math/bits.divideError", "math/bits.overflowError", "rosette/shuffle.fours"], apart := false, laid := [("math/bits.deBruijn64tab", laid_math_bits_deBruijn64tab), ("rosette/shuffle.fours", laid_rosette_shuffle_fours)], narrowed := true }
def RealNumbersUptoSaid : Prop := realNumbersUptoRow.holds Tryz.pinned (OpenSpec.upto realNumbersSpec)

/-- 'rosettelaw10.RealEven', WHERE WHAT IT READS IS OF BULK AT MOST 1048576: true; the input reads as it did. -/
def realEvenUptoRow : OpenClaim := { program := "ytamjpojnonaecaagreatdoor", sum := "b03720e6c0733aa3586b48d26e3abd14ddab15f01095e4c32fae2cf82437c81c", func := "rosette/rosettelaw10.RealEven", spec := "realEven", inPlace := ["math.Float64bits", "math.Float64frombits", "math/bits.Add64", "math/bits.Sub64"], unfollowed := true, recurses := true, named := ["math/bits.deBruijn64tab", "math/bits.divideError", "math/bits.overflowError", "rosette/shuffle.fours"], apart := false, laid := [("math/bits.deBruijn64tab", laid_math_bits_deBruijn64tab), ("rosette/shuffle.fours", laid_rosette_shuffle_fours)], narrowed := true }
def RealEvenUptoSaid : Prop := realEvenUptoRow.holds Tryz.pinned (OpenSpec.upto realEvenSpec)

/-- 'rosettelaw10.RealHalves', WHERE WHAT IT READS IS OF BULK AT MOST 1048576: true; the input reads as it did. -/
def realHalvesUptoRow : OpenClaim := { program := "ytamjpojnonaecaagreatdoor", sum := "b03720e6c0733aa3586b48d26e3abd14ddab15f01095e4c32fae2cf82437c81c", func := "rosette/rosettelaw10.RealHalves", spec := "realHalves", inPlace := ["math.Float64bits", "math.Float64frombits", "math/bits.Add64", "math/bits.Sub64"], unfollowed := true, recurses := true, named := ["math/bits.deBruijn64tab", "math/bits.divideError", "math/bits.overflowError", "rosette/shuffle.fours"], apart := false, laid := [("math/bits.deBruijn64tab", laid_math_bits_deBruijn64tab), ("rosette/shuffle.fours", laid_rosette_shuffle_fours)], narrowed := true }
def RealHalvesUptoSaid : Prop := realHalvesUptoRow.holds Tryz.pinned (OpenSpec.upto realHalvesSpec)

/-- 'rosettelaw10.RealFirst', WHERE WHAT IT READS IS OF BULK AT MOST 1048576: true; the input reads as it did. -/
def realFirstUptoRow : OpenClaim := { program := "ytamjpojnonaecaagreatdoor", sum := "b03720e6c0733aa3586b48d26e3abd14ddab15f01095e4c32fae2cf82437c81c", func := "rosette/rosettelaw10.RealFirst", spec := "realFirst", inPlace := ["math.Float64bits", "math.Float64frombits", "math/bits.Add64", "math/bits.Sub64"], unfollowed := true, recurses := true, named := ["math/bits.deBruijn64tab", "math/bits.divideError", "math/bits.overflowError", "rosette/shuffle.fours"], apart := false, laid := [("math/bits.deBruijn64tab", laid_math_bits_deBruijn64tab), ("rosette/shuffle.fours", laid_rosette_shuffle_fours)], narrowed := true }
def RealFirstUptoSaid : Prop := realFirstUptoRow.holds Tryz.pinned (OpenSpec.upto realFirstSpec)

/-- 'rosettelaw10.RealSpares', WHERE WHAT IT READS IS OF BULK AT MOST 1048576: true; the input reads as it did. -/
def realSparesUptoRow : OpenClaim := { program := "ytamjpojnonaecaagreatdoor", sum := "b03720e6c0733aa3586b48d26e3abd14ddab15f01095e4c32fae2cf82437c81c", func := "rosette/rosettelaw10.RealSpares", spec := "realSpares", inPlace := ["math.Float64bits", "math.Float64frombits", "math/bits.Add64", "math/bits.Sub64"], unfollowed := true, recurses := true, named := ["math/bits.deBruijn64tab", "math/bits.divideError", "math/bits.overflowError", "rosette/shuffle.fours"], apart := false, laid := [("math/bits.deBruijn64tab", laid_math_bits_deBruijn64tab), ("rosette/shuffle.fours", laid_rosette_shuffle_fours)], narrowed := true }
def RealSparesUptoSaid : Prop := realSparesUptoRow.holds Tryz.pinned (OpenSpec.upto realSparesSpec)

end Rows
end Go.Proofs.YtamjpojnonaecaaGreatDoor
