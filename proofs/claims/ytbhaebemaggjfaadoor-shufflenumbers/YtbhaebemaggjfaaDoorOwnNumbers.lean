/-
  Proved: rosettelaw06.ShuffleNumbers, a closed statement (places and orders at and past the limits, rows of 1 to 32769 numbers against the document's own definition, rows of no order, what is handed in is only read and answers are new memory, rows with noughts below 0, NaN and infinities), returns true, in any memory and on any tape of answers; the one condition: the table of sixteen that the card ties to the program's text is laid.
-/
import Derived.Test.YtbhaebemaggjfaaDoorRows
import Derived.Test.YtbhaebemaggjfaaDoorCards
import Derived.Test.YtbhaebemaggjfaaDoorTie
import Derived.Test.YtbhaebemaggjfaaDoorST
import Derived.ProofKit
import Derived.OpenShut
import Derived.LaidMore
import Derived.Stop.Joined
import Derived.Laws.Cover2
import Derived.ChangeSlices
import Derived.Carry
import Derived.Deep.Strs
import Derived.SevenTiedAt
namespace Go.Proofs.YtbhaebemaggjfaaDoor
open Go.ChangeShapes Go.WideShapes Go.ChangeAt Go.RowKit
set_option linter.unusedVariables false

theorem own : ownKnob Tryd.prog.godebug = none := by kernel_rfl
theorem cells3 : Tryd.prog.cellsOf 3 = 1 := by kernel_rfl
theorem gTab : Tryd.prog.globalNamed "rosette/shuffle.fours" = some 1 := by kernel_rfl
theorem tTab : (Tryd.prog.globals[1]?).map (·.type) = some 51 := by kernel_rfl
theorem laid_list {H : Type} : (Rows.laid_rosette_shuffle_fours : DataW H) = .agg (fours.map fun (n : Nat) => .lit (.int .i64 (n : Int))) := rfl
theorem tab_len : fours.length = 16 := rfl
set_option maxRecDepth 100000 in
/-- what the listed variable gives: the cells of the table -/
theorem tab_of_laid {W : World} (h : laidMetH Tryd.prog [("rosette/shuffle.fours", Rows.laid_rosette_shuffle_fours)] W) : TabF W := by
  rw [MakeChecks.laidMetH_plain _ _ _ (by kernel_rfl)] at h
  obtain ⟨ps, ⟨g0, t0, cs0, f0, p0, q0, hg0, ht0, hv0, hd0, _, _⟩, _, _⟩ := h
  obtain rfl := Option.some.inj (gTab.symm.trans hg0)
  obtain rfl := Option.some.inj (tTab.symm.trans ht0)
  obtain ⟨xs, m1, rfl, hx1, hlen, hn3, hel⟩ := DataW.trod_array Tryd.underlying51 hd0
  rw [laid_list] at hx1
  have hx2 : fours.map (fun (n : Nat) => (.lit (.int .i64 (n : Int)) : DataW Unit)) = xs.map (·.1) := by
    injection hx1 with h1 h2
    injection h1
  intro j hj
  have h0 := hel j hj
  rw [cells3, Nat.mul_one] at h0
  have hxj : xs[j]? = some xs[j] := List.getElem?_eq_getElem (by omega)
  rw [hxj] at h0
  obtain ⟨n, e1, e2, _⟩ := DataW.trod_int Tryd.underlying3 h0
  have e3 : (xs.map (·.1))[j]? = some (.lit (.int .i64 n)) := by
    rw [List.getElem?_map, hxj, e2]; rfl
  rw [← hx2, List.getElem?_map, List.getElem?_eq_getElem (by rw [tab_len]; exact hj)] at e3
  simp only [Option.map_some] at e3
  injection e3 with e3
  injection e3 with e3
  injection e3 with _ e3
  rw [World.var?_cell hg0 hv0 j, List.getD_eq_getElem?_getD, List.getElem?_eq_getElem (by rw [tab_len]; exact hj)]
  simp only [Option.getD_some]
  have e5 : cs0.toList[j]? = some (.int .i64 n) := by
    have : (cs0.toList.drop j).take 1 = [.int .i64 n] := e1
    have h6 : ((cs0.toList.drop j).take 1)[0]? = some (.int .i64 n) := by rw [this]; rfl
    rw [List.getElem?_take_of_lt (by omega), List.getElem?_drop] at h6
    exact h6
  rw [Array.getElem?_toList] at e5
  rw [e5]
  exact congrArg (fun z => some (Value.int .i64 z)) e3.symm
/-- the door's own heap meets the condition -/
theorem door_met (os : Os) (args : Array Value) : laidMetH Tryd.prog [("rosette/shuffle.fours", Rows.laid_rosette_shuffle_fours)] ((World.doorLaid Tryd.prog 400 os).forCall (fun _ _ => 0) ⟨#[], args, []⟩).memory :=
  laidMetH_of_parts3 (fuel := 8) (laidMet_of_run' 8 (by kernel_rfl) (by kernel_rfl)) (by kernel_rfl) (by kernel_rfl)

set_option maxRecDepth 100000 in
theorem nums_lifted (os : Os) (started : os.Started) (H : Type) (enc : TypeId × Value → H) :
    ReturnsInHanded {} Tryd.checked os 3 .any (fun w args => (Rows.shuffleNumbersSpec.pre enc Tryd.prog Tryd.f3 [] false w args ∧ laidMetH Tryd.prog [("rosette/shuffle.fours", Rows.laid_rosette_shuffle_fours)] w) ∧ sizedMet enc Tryd.prog Tryd.f3 (OpenSpec.ofChange Rows.shuffleNumbersSpec) false w args)
      (Rows.shuffleNumbersSpec.post enc Tryd.prog Tryd.f3 false true false false) := by
  refine returnsInHanded_of_change_and (C := Tryd.checked) (X := fun w _ => laidMetH Tryd.prog [("rosette/shuffle.fours", Rows.laid_rosette_shuffle_fours)] w) (fun _ _ _ hh h => h.of_heap hh) own started (by kernel_rfl) Tryd.func3
    (ChangeSpec.witness_shaped (enc := enc) (C := Tryd.checked) (os := os) (X := fun w _ => laidMetH Tryd.prog [("rosette/shuffle.fours", Rows.laid_rosette_shuffle_fours)] w) false (World.doorLaid Tryd.prog 400 os) #[] 8 rfl (World.shaped_of_RefB (by kernel_rfl) (by kernel_rfl)) (by kernel_rfl) (by kernel_rfl) (by kernel_rfl) (door_met os _)) ?_
  intro W base args ds gs before hval0 hW _ _ hL _
  have hW' := hW
  obtain ⟨p, q, hA0, hV, rfl, hfz, hnd⟩ := hW
  have hA : DataW.TrodAll enc Tryd.prog W 0 (fun _ => true) true Tryd.f3.params.toList args.toList ds p := hA0
  rw [Tryd.params3] at hA
  obtain ⟨rfl, rfl, rfl⟩ := trodAll_none hA
  obtain ⟨rfl, rfl⟩ := trodVars_none hV
  have hT := tab_of_laid hL
  clear hA0 hval0
  simp only [List.append_nil] at hW'
  refine (nums3 W hT).mono fun e W' ⟨he, hg⟩ => ?_
  subst he
  exact ⟨_, rfl, _, _, _, [], [], [], hW', (trodAll_cons_mk (shut_bool Tryd.underlying4 _) trodAll_mk0), rfl, rfl, hg.frame _, fun h => by cases h⟩

theorem nums_over : Rows.ShuffleNumbersSaid :=
  OpenClaim.holds_of_wide 3 Tryd.f3 rfl rfl rfl rfl rfl rfl rfl ⟨rfl, rfl, rfl, rfl, rfl⟩ rfl rfl rfl rfl rfl (by kernel_rfl) Tryd.func3 (by kernel_rfl)
    (of_decide_eq_true (by kernel_rfl)) (by unfold Func.isWrapper; first | (rw [if_pos (by decide +kernel)]; kernel_rfl) | (rw [if_neg (by decide +kernel)]; exact ⟨rfl, rfl⟩))
    (fun os started H enc _ => nums_lifted os started H enc)

theorem shuffleNumbers_proved : Rows.ShuffleNumbersCardSaid :=
  Claim7.holds_tied_plain_at .later [] [.data] true (true, "8f3a5d0f7a8693ee485a771899e43e48bce01568e899d3545bb4cc8826e6cc72") false
    nums_over (fun _ h => by cases h) (by kernel_rfl) (fun _ h => by cases h) shuffleNumbers_row_tie rfl ⟨rfl, rfl⟩ (by kernel_rfl) rfl
    (fun f fn hf hfn => by
      obtain rfl : f = 3 := Option.some.inj ((show Tryd.prog.funcNamed "rosette/rosettelaw06.ShuffleNumbers" = some 3 by kernel_rfl).symm.trans hf) |>.symm
      obtain rfl : fn = Tryd.f3 := (Option.some.inj (Tryd.func3.symm.trans hfn)).symm
      exact ⟨by kernel_rfl, fun j t ht => by
        rw [Tryd.params3] at ht
        have hm : t ∈ ([] : List TypeId) := by simpa using Array.mem_of_getElem? ht
        cases hm⟩)
    (by kernel_rfl)
#print axioms shuffleNumbers_proved
end Go.Proofs.YtbhaebemaggjfaaDoor
