import Derived.Test.YtfgaifbnhdgkgaaDoorM39
import Derived.Test.YtfgaifbnhdgkgaaDoorM15
import Derived.Test.YtfgaifbnhdgkgaaDoorRows
import Derived.WalkKit
import Derived.ProofKit
import Derived.OpenShut
import Derived.LaidMore
import Derived.Stop.Joined
import Derived.Laws.Cover2
import Derived.ChangeSlices
import Derived.Carry
import Derived.Deep.Strs
namespace Go.Proofs.YtfgaifbnhdgkgaaDoor
open Go.RowKit
open Ieee
set_option linter.unusedVariables false

/-! WheelSteep -/
def fo (a b : Nat) : Option Ordering := FloatKind.f64.format.order a b
def stOK (p i : Nat) : Bool :=
  (fo (tv T7 p i).1 13830554455654793216 == some .gt || fo (tv T7 p i).1 13830554455654793216 == some .eq) &&
  (fo (tv T7 p i).1 4607182418800017408 == some .lt || fo (tv T7 p i).1 4607182418800017408 == some .eq) &&
  (fo (tv T7 p i).2 13830554455654793216 == some .gt || fo (tv T7 p i).2 13830554455654793216 == some .eq) &&
  (fo (tv T7 p i).2 4607182418800017408 == some .lt || fo (tv T7 p i).2 4607182418800017408 == some .eq) &&
  (decide ((tv T7 p i).1 = 0) || !(fo (tv T7 p i).1 0 == some .eq)) && (decide ((tv T7 p i).2 = 0) || !(fo (tv T7 p i).2 0 == some .eq)) &&
  !decide ((tv T7 p i).1 = 0 ∧ (tv T7 p i).2 = 0) &&
  (!decide (4 * i < 2 ^ p) || !decide (0 < i) || (fo (tv T7 p i).1 (tv T7 p (i - 1)).1 == some .lt && fo (tv T7 p i).2 (tv T7 p (i - 1)).2 == some .gt))
theorem st_all : (List.range 8).all (fun p => (List.range (2 ^ p)).all fun i => stOK p i) = true := by decide +kernel
theorem rowN (p : Nat) (w : World) (hp : p ≤ 7) (hT : TabAt 1 Lib.deBruijn64tab w) : Calls Tryd.prog 7 #[.int .i64 (p : Int)] w fun r w' => ∃ g n, w.heap.size ≤ g ∧ r = .returned (.tuple #[.slice (some ⟨g, 0, none⟩) n n, .int .i64 0]) ∧ w'.ownsRow g 30 1 (.slice (some ⟨g, 0, none⟩) n n) n (cz (rw7 T7 p n)) ∧ Gr w w' ∧ Hid (n = 2 ^ p) ∧ wrap64 ((2 : Int) ^ p) = (n : Int) ∧ n ≤ 128 := by
  refine (rowE p w hp hT).mono ?_
  rintro r w' ⟨g, h1, h2, h3, h4⟩
  refine ⟨g, _, h1, h2, h3, h4, rfl, ?_⟩
  rcases (show p = 0 ∨ p = 1 ∨ p = 2 ∨ p = 3 ∨ p = 4 ∨ p = 5 ∨ p = 6 ∨ p = 7 by omega) with rfl | rfl | rfl | rfl | rfl | rfl | rfl | rfl <;> exact ⟨by decide +kernel, by omega⟩
theorem rw7_at (p n i : Nat) (h : i < n) : (rw7 T7 p n).getD i (0, 0) = tv T7 p i := by
  unfold rw7
  rw [List.getD_eq_getElem?_getD, List.getElem?_map, List.getElem?_range h]
  rfl
set_option maxRecDepth 40000 in
set_option maxHeartbeats 3200000 in
theorem steepE (x : Int) (w : World) (hT : TabAt 1 Lib.deBruijn64tab w) : Calls Tryd.prog 4 #[.int .i64 x] w fun r w' => r = .returned (.bool true) ∧ Gr w w' := by
  have AW := hide (awakeE w hT)
  have PK := hide (fun w1 => pick8 x w1)
  have RW := hide (fun p w1 (hp : p ≤ 7) (g : Gr w w1) => rowN p w1 hp (tab_gr hT g))
  clear hT
  go_enter Tryd.func4, Tryd.ntmps4
  go_wp2_with (first | (go_at_call 5; (with_reducible refine AW.out.mono ?_); rintro r w1 ⟨rfl, g1⟩) | (go_at_call 6; (with_reducible refine (PK.out _).mono ?_); rintro r w2 ⟨p, rfl, hp, rfl⟩) | (go_at_call 7; (with_reducible refine (RW.out _ _ hp g1).mono ?_); rintro r w3 ⟨g, n, hg0, rfl, hl, g3, HN, en, hn1⟩))
  have G3 : Hid (Gr w w3) := g1.trans g3
  have HL := hide hl
  clear hl g1 g3 hg0
  rw [en]
  clear en
  go_loopw [6] (fun i wr => ∃ j : Nat, j ≤ n ∧ i = .int .i64 (j : Int) ∧ Hid (Gr w3 wr)) (fun i _ => n - (intOf i).toNat)
  case atStart => exact ⟨0, by omega, rfl, Gr.refl _⟩
  case round =>
    obtain ⟨j, hj, rfl, hg⟩ := hrel
    by_cases hlt : j < n
    · have i1 : (j : Int) < (n : Int) := by omega
      have k1 := ownsC_cell (hg.out.owns HL.out) j hlt
      rw [rw7_at p n j hlt] at k1
      have st := List.all_eq_true.1 (List.all_eq_true.1 st_all p (List.mem_range.2 (by omega))) j (List.mem_range.2 (by have := HN.out; omega))
      unfold stOK at st
      have k2 : j - 1 < n → wr.cell? ⟨g, j - 1, none⟩ = some (.complex .f64 (tv T7 p (j - 1)).1 (tv T7 p (j - 1)).2) := fun h => by
        have h2 := ownsC_cell (hg.out.owns HL.out) (j - 1) h
        rw [rw7_at p n (j - 1) h] at h2
        exact h2
      generalize (tv T7 p j).1 = a at *
      generalize (tv T7 p j).2 = b at *
      generalize (tv T7 p (j - 1)).1 = a' at *
      generalize (tv T7 p (j - 1)).2 = b' at *
      simp only [Bool.and_eq_true] at st
      obtain ⟨⟨⟨⟨⟨⟨⟨s1, s2⟩, s3⟩, s4⟩, s5⟩, s6⟩, s8⟩, s7⟩ := st
      have s8 : ¬ (a = 0 ∧ b = 0) := by rintro ⟨h1, h2⟩; simp [h1, h2] at s8
      unfold fo at *
      have zc : (a = 0 ∧ (FloatKind.f64.format.order b 0 == some .eq) = false) ∨ ((FloatKind.f64.format.order a 0 == some .eq) = false ∧ b = 0) ∨ ((FloatKind.f64.format.order a 0 == some .eq) = false ∧ (FloatKind.f64.format.order b 0 == some .eq) = false) := by
        simp only [Bool.or_eq_true, decide_eq_true_eq, Bool.not_eq_true'] at s5 s6
        rcases s5 with h | h <;> rcases s6 with h' | h'
        · exact absurd ⟨h, h'⟩ s8
        · exact Or.inl ⟨h, h'⟩
        · exact Or.inr (Or.inl ⟨h, h'⟩)
        · exact Or.inr (Or.inr ⟨h, h'⟩)
      have sc : (¬ 4 * (j : Int) < (n : Int)) ∨ (4 * (j : Int) < (n : Int) ∧ ¬ (j : Int) > 0) ∨ (4 * (j : Int) < (n : Int) ∧ (j : Int) > 0 ∧ wr.cell? ⟨g, j - 1, none⟩ = some (.complex .f64 a' b') ∧ (FloatKind.f64.format.order a a' == some .lt) = true ∧ (FloatKind.f64.format.order b b' == some .gt) = true) := by
        by_cases h4 : 4 * j < n
        · by_cases h0 : 0 < j
          · refine Or.inr (Or.inr ⟨by omega, by omega, k2 (by omega), ?_⟩)
            rw [← HN.out, decide_eq_true h4, decide_eq_true h0] at s7
            simpa using s7
          · exact Or.inr (Or.inl ⟨by omega, by omega⟩)
        · exact Or.inl (by omega)
      have ew : IntKind.i64.wrap (4 * (j : Int)) = 4 * (j : Int) := by rw [IntKind.wrap_i64]; omega
      have o0 : (FloatKind.f64.format.order 0 0 == some .eq) = true := by decide +kernel
      clear k2 s5 s6 s7 s8
      rcases zc with ⟨rfl, nb⟩ | ⟨na, rfl⟩ | ⟨na, nb⟩
      all_goals rcases sc with h4 | ⟨h4, h5⟩ | ⟨h4, h5, k2, q1, q2⟩
      all_goals
        go_wp2
        go_region
        go_wp2_with (go_at_call 15; (with_reducible refine (sameF _ _).mono ?_); rintro r w9 ⟨rfl, rfl⟩)
        go_roundw
        case rel => exact ⟨j + 1, by omega, by go_num, hg.out.drew⟩
        case measure => simp only [intOf]; omega
    · have i1 : ¬ (j : Int) < (n : Int) := by omega
      go_wp2
      go_ret
      exact ⟨rfl, G3.out.trans hg.out⟩
end Go.Proofs.YtfgaifbnhdgkgaaDoor
namespace Go.Proofs.YtfgaifbnhdgkgaaDoor
open Go.ChangeShapes Go.WideShapes Go.ChangeAt Go.RowKit
set_option linter.unusedVariables false

/-! THE FRAME OF THE STATEMENTS ON DYADS -/
theorem own : ownKnob Tryd.prog.godebug = none := by kernel_rfl
theorem laidOut : laidOutB Tryd.prog = true := by kernel_rfl
theorem cells37 : Tryd.prog.cellsOf 42 = 1 := by kernel_rfl
theorem cells24 : Tryd.prog.cellsOf 48 = 3 := by kernel_rfl
theorem cells22 : Tryd.prog.cellsOf 46 = 1 := by kernel_rfl
theorem cells3 : Tryd.prog.cellsOf 3 = 1 := by kernel_rfl
theorem cells4 : Tryd.prog.cellsOf 4 = 1 := by kernel_rfl
theorem cells5 : Tryd.prog.cellsOf 5 = 1 := by kernel_rfl
theorem cells96 : Tryd.prog.cellsOf 106 = 64 := by kernel_rfl
theorem gTab : Tryd.prog.globalNamed "math/bits.deBruijn64tab" = some 1 := by kernel_rfl
theorem tTab : (Tryd.prog.globals[1]?).map (·.type) = some 106 := by kernel_rfl
theorem laid_list {H : Type} : (Rows.laid_math_bits_deBruijn64tab : DataW H) = .agg (Lib.deBruijn64tab.map fun (n : Nat) => .lit (.int .u8 (n : Int))) := rfl
theorem tab_len : Lib.deBruijn64tab.length = 64 := rfl
set_option maxRecDepth 100000 in
/-- what the listed variable gives: the table's cells -/
theorem tab_of_laid {W : World} (h : laidMetH Tryd.prog [("math/bits.deBruijn64tab", Rows.laid_math_bits_deBruijn64tab)] W) : TabAt 1 Lib.deBruijn64tab W := by
  rw [MakeChecks.laidMetH_plain _ _ _ (by kernel_rfl)] at h
  obtain ⟨ps, ⟨g0, t0, cs0, f0, p0, q0, hg0, ht0, hv0, hd0, _, _⟩, _, _⟩ := h
  obtain rfl := Option.some.inj (gTab.symm.trans hg0)
  obtain rfl := Option.some.inj (tTab.symm.trans ht0)
  obtain ⟨xs, m1, rfl, hx1, hlen, hn3, hel⟩ := DataW.trod_array Tryd.underlying106 hd0
  rw [laid_list] at hx1
  have hx2 : Lib.deBruijn64tab.map (fun (n : Nat) => (.lit (.int .u8 (n : Int)) : DataW Unit)) = xs.map (·.1) := by
    injection hx1 with h1 h2
    injection h1
  intro j hj
  rw [tab_len] at hj
  have h0 := hel j hj
  rw [cells5, Nat.mul_one] at h0
  have hxj : xs[j]? = some xs[j] := List.getElem?_eq_getElem (by omega)
  rw [hxj] at h0
  obtain ⟨n, e1, e2, _⟩ := DataW.trod_int Tryd.underlying5 h0
  have e3 : (xs.map (·.1))[j]? = some (.lit (.int .u8 n)) := by
    rw [List.getElem?_map, hxj, e2]; rfl
  rw [← hx2, List.getElem?_map, List.getElem?_eq_getElem (by rw [tab_len]; exact hj)] at e3
  simp only [Option.map_some] at e3
  injection e3 with e3
  injection e3 with e3
  injection e3 with _ e3
  rw [World.var?_cell hg0 hv0 j, List.getD_eq_getElem?_getD, List.getElem?_eq_getElem (by rw [tab_len]; exact hj)]
  simp only [Option.getD_some]
  have e5 : cs0.toList[j]? = some (.int .u8 n) := by
    have : (cs0.toList.drop j).take 1 = [.int .u8 n] := e1
    have h6 : ((cs0.toList.drop j).take 1)[0]? = some (.int .u8 n) := by rw [this]; rfl
    rw [List.getElem?_take_of_lt (by omega), List.getElem?_drop] at h6
    exact h6
  rw [Array.getElem?_toList] at e5
  rw [e5]
  exact congrArg (fun z => some (Value.int .u8 z)) e3.symm
/-- the door's own heap meets the condition -/
theorem door_met (os : Os) (args : Array Value) : laidMetH Tryd.prog [("math/bits.deBruijn64tab", Rows.laid_math_bits_deBruijn64tab)] ((World.doorLaid Tryd.prog 400 os).forCall (fun _ _ => 0) ⟨#[], args, []⟩).memory :=
  laidMetH_of_parts3 (fuel := 8) (laidMet_of_run' 8 (by kernel_rfl) (by kernel_rfl)) (by kernel_rfl) (by kernel_rfl)
end Go.Proofs.YtfgaifbnhdgkgaaDoor
