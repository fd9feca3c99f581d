/-
  Proved: rosettelaw07.TurnNumbers, a closed statement (the chapter's limits and examples: rows of one number, lengths that are no order's, products place by place, the longest row, of 16384 ones, and one beyond), returns true, in any memory and on any tape of answers; the one condition: the tables of math/bits and of shuffle that the card ties to the program's text are laid.
-/
import Derived.Test.YtamjpojnonaecaaGreatDoorM53
import Derived.Test.YtamjpojnonaecaaGreatDoorM45
import Derived.Test.YtamjpojnonaecaaGreatDoorRows
import Derived.Test.YtamjpojnonaecaaGreatDoorCards
import Derived.Test.YtamjpojnonaecaaGreatDoorTie
import Derived.SevenTiedAt
namespace Go.Proofs.YtamjpojnonaecaaGreatDoor
open Go.ChangeShapes Go.WideShapes Go.ChangeAt Go.RowKit
set_option linter.unusedVariables false

set_option maxRecDepth 100000 in
theorem turnNumbers_lifted (os : Os) (started : os.Started) (H : Type) (enc : TypeId × Value → H) :
    ReturnsInHanded {} Tryz.checked os 3 .any (fun w args => (Rows.turnNumbersSpec.pre enc Tryz.prog Tryz.f3 [] false w args ∧ laidMetH Tryz.prog [("math/bits.deBruijn64tab", Rows.laid_math_bits_deBruijn64tab), ("rosette/shuffle.fours", Rows.laid_rosette_shuffle_fours)] w) ∧ sizedMet enc Tryz.prog Tryz.f3 (OpenSpec.ofChange Rows.turnNumbersSpec) false w args)
      (Rows.turnNumbersSpec.post enc Tryz.prog Tryz.f3 false true false false) := by
  refine returnsInHanded_of_change_and (C := Tryz.checked) (X := fun w _ => laidMetH Tryz.prog [("math/bits.deBruijn64tab", Rows.laid_math_bits_deBruijn64tab), ("rosette/shuffle.fours", Rows.laid_rosette_shuffle_fours)] w) (fun _ _ _ hh h => h.of_heap hh) own started (by kernel_rfl) Tryz.func3
    (ChangeSpec.witness_shaped (enc := enc) (C := Tryz.checked) (os := os) (X := fun w _ => laidMetH Tryz.prog [("math/bits.deBruijn64tab", Rows.laid_math_bits_deBruijn64tab), ("rosette/shuffle.fours", Rows.laid_rosette_shuffle_fours)] w) false (World.doorLaid Tryz.prog 400 os) #[] 8 rfl (World.shaped_of_RefB (by kernel_rfl) (by kernel_rfl)) (by kernel_rfl) (by kernel_rfl) (by kernel_rfl) (door_met os _)) ?_
  intro W base args ds gs before hval0 hW _ _ hL _
  have hW' := hW
  obtain ⟨p, q, hA0, hV, rfl, hfz, hnd⟩ := hW
  have hA : DataW.TrodAll enc Tryz.prog W 0 (fun _ => true) true Tryz.f3.params.toList args.toList ds p := hA0
  rw [Tryz.params3] at hA
  obtain ⟨rfl, rfl, rfl⟩ := trodAll_none hA
  obtain ⟨rfl, rfl⟩ := trodVars_none hV
  obtain ⟨hT, hF⟩ := tabs_of_laid hL
  clear hA0 hval0
  refine (Fl.tnumbersW W hT hF).mono fun e W' ⟨he, hg⟩ => ?_
  subst he
  exact ⟨_, rfl, _, _, _, [], [], [], hW', (trodAll_cons_mk (shut_bool Tryz.underlying4 _) trodAll_mk0), trodAll_mk0, rfl, hg.frame _, fun h => by cases h⟩

theorem turnNumbers_over : Rows.TurnNumbersSaid :=
  OpenClaim.holds_of_wide 3 Tryz.f3 rfl rfl rfl rfl rfl rfl rfl ⟨rfl, rfl, rfl, rfl, rfl⟩ rfl rfl rfl rfl rfl (by kernel_rfl) Tryz.func3 (by kernel_rfl)
    (of_decide_eq_true (by kernel_rfl)) (by unfold Func.isWrapper; first | (rw [if_pos (by decide +kernel)]; kernel_rfl) | (rw [if_neg (by decide +kernel)]; exact ⟨rfl, rfl⟩))
    (fun os started H enc _ => turnNumbers_lifted os started H enc)

theorem turnNumbers_proved : Rows.TurnNumbersCardSaid :=
  Claim7.holds_tied_plain_at .later [] [.data, .data] true (true, "56b3562e39cf43e3038168340a034bf780603a0b3d63803c795f4674fa905759") false
    turnNumbers_over (fun _ h => by cases h) (by kernel_rfl) (fun _ h => by cases h) turnNumbers_row_tie rfl ⟨rfl, rfl⟩ (by kernel_rfl) rfl
    (fun f fn hf hfn => by
      obtain rfl : f = 3 := Option.some.inj ((show Tryz.prog.funcNamed "rosette/rosettelaw07.TurnNumbers" = some 3 by kernel_rfl).symm.trans hf) |>.symm
      obtain rfl : fn = Tryz.f3 := (Option.some.inj (Tryz.func3.symm.trans hfn)).symm
      exact ⟨by kernel_rfl, fun j t ht => by rw [Tryz.params3] at ht; simp at ht⟩)
    (by kernel_rfl)
#print axioms turnNumbers_proved
end Go.Proofs.YtamjpojnonaecaaGreatDoor
