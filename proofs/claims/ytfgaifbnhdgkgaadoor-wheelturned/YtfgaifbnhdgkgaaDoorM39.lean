import Derived.Test.YtfgaifbnhdgkgaaDoorM10
import Derived.Test.YtfgaifbnhdgkgaaDoorM38
import Derived.Test.YtfgaifbnhdgkgaaDoorM09
namespace Go.Proofs.YtfgaifbnhdgkgaaDoor
open Go.RowKit
open Ieee
set_option linter.unusedVariables false

/-! WHEEL: ROWS AND HALVES -/
theorem t7_one : (List.range 8).all (fun k => (List.range (2 ^ k / 8 + 1)).all fun j => decide ((s1 T7 k j).set j (tv T7 k j) = s1 T7 k (j + 1))) = true := by decide +kernel
theorem t7_two : (List.range 8).all (fun k => (List.range (2 ^ k / 8)).all fun j => decide ((s2 T7 k j).set (qn k - 1 - j) (((s2 T7 k j).getD (1 + j) (0, 0)).2, ((s2 T7 k j).getD (1 + j) (0, 0)).1) = s2 T7 k (j + 1))) = true := by decide +kernel
theorem t7_mid : (List.range 8).all (fun k => decide (s1 T7 k (2 ^ k / 8 + 1) = s2 T7 k 0) && decide (s2 T7 k (2 ^ k / 8) = rw7 T7 k (qn k))) = true := by decide +kernel
theorem t7_turn : (List.range 8).all (fun k => (List.range (2 ^ k)).all fun i => decide (double.add (tW (4 * i / 2 ^ k) ((rw7 T7 k (qn k)).getD (i % qn k) (0, 0))).1 0 = some (tv T7 k i).1) && decide (double.add (tW (4 * i / 2 ^ k) ((rw7 T7 k (qn k)).getD (i % qn k) (0, 0))).2 0 = some (tv T7 k i).2)) = true := by decide +kernel
theorem tab7 (k : Nat) (hk : k ≤ 7) : Tab7 T7 k := by
  have hm : k ∈ List.range 8 := List.mem_range.2 (by omega)
  have h3 := List.all_eq_true.1 t7_mid k hm
  simp only [Bool.and_eq_true, decide_eq_true_eq] at h3
  refine ⟨fun j hj => ?_, fun j hj => ?_, h3.1, h3.2, fun i hi => ?_⟩
  · exact of_decide_eq_true (List.all_eq_true.1 (List.all_eq_true.1 t7_one k hm) j (List.mem_range.2 hj))
  · exact of_decide_eq_true (List.all_eq_true.1 (List.all_eq_true.1 t7_two k hm) j (List.mem_range.2 hj))
  · have h := List.all_eq_true.1 (List.all_eq_true.1 t7_turn k hm) i (List.mem_range.2 hi)
    simp only [Bool.and_eq_true, decide_eq_true_eq] at h
    exact h
theorem nearK (k : Nat) (w : World) (hk : k ≤ 7) (hT : TabAt 1 Lib.deBruijn64tab w) : NearK T7 k (k : Int) w := fun i w1 hi g =>
  near7o k i (i : Int) w1 (tab_gr hT g) hk hi (by rw [← Int.natCast_emod, Nat.mod_eq_of_lt hi])
theorem rightE (K : Int) (w : World) (h0 : 0 ≤ K) (h1 : K ≤ 14) : Calls Tryd.prog 16 #[.int .i64 K] w fun r w' => r = .returned (.bool true) ∧ w' = w := by
  go_enter Tryd.func16, Tryd.ntmps16
  go_wp2
  go_ret
  exact ⟨rfl, rfl⟩
theorem row0 (w : World) (hT : TabAt 1 Lib.deBruijn64tab w) : Calls Tryd.prog 7 #[.int .i64 0] w fun r w' => ∃ g, w.heap.size ≤ g ∧ r = .returned (.tuple #[.slice (some ⟨g, 0, none⟩) 1 1, .int .i64 0]) ∧ w'.ownsRow g 30 1 (.slice (some ⟨g, 0, none⟩) 1 1) 1 (cz (rw7 T7 0 1)) ∧ Gr w w' := by
  have RT : Hid (Calls Tryd.prog 17 #[.int .i64 0, .int .i64 1] w fun r w' => ∃ g, w.heap.size ≤ g ∧ r = .returned (.tuple #[.slice (some ⟨g, 0, none⟩) 1 1, .int .i64 0]) ∧ w'.ownsRow g 30 1 (.slice (some ⟨g, 0, none⟩) 1 1) 1 (cz (rw7 T7 0 1)) ∧ Gr w w') := roots0 T7 1 w (tab7 0 (by omega)) (nearK 0 w (by omega) hT) (by omega)
  clear hT
  go_enter Tryd.func7, Tryd.ntmps7
  go_wp2_with (first | (go_at_call 16; (with_reducible refine (rightE _ _ ?_ ?_).mono ?_); rotate_right; rintro r w1 ⟨rfl, rfl⟩) | (go_at_call 17; (with_reducible refine RT.out.mono ?_); rintro r w1 ⟨g, h1, rfl, h2, h3⟩))
  · go_ret2
    exact ⟨_, h1, rfl, h2, h3⟩
  · omega
  · omega
theorem half0 (w : World) (hT : TabAt 1 Lib.deBruijn64tab w) : Calls Tryd.prog 13 #[.int .i64 0] w fun r w' => ∃ g, w.heap.size ≤ g ∧ r = .returned (.tuple #[.slice (some ⟨g, 0, none⟩) 1 1, .int .i64 0]) ∧ w'.ownsRow g 30 1 (.slice (some ⟨g, 0, none⟩) 1 1) 1 (cz (rw7 T7 0 1)) ∧ Gr w w' := by
  have RT : Hid (Calls Tryd.prog 17 #[.int .i64 0, .int .i64 1] w fun r w' => ∃ g, w.heap.size ≤ g ∧ r = .returned (.tuple #[.slice (some ⟨g, 0, none⟩) 1 1, .int .i64 0]) ∧ w'.ownsRow g 30 1 (.slice (some ⟨g, 0, none⟩) 1 1) 1 (cz (rw7 T7 0 1)) ∧ Gr w w') := roots0 T7 1 w (tab7 0 (by omega)) (nearK 0 w (by omega) hT) (by omega)
  clear hT
  have mx : max (0 : Int) 1 = 1 := by omega
  go_enter Tryd.func13, Tryd.ntmps13
  go_wp2_with (first | (go_at_call 16; (with_reducible refine (rightE _ _ ?_ ?_).mono ?_); rotate_right; rintro r w1 ⟨rfl, rfl⟩) | (go_at_call 17; (with_reducible refine RT.out.mono ?_); rintro r w1 ⟨g, h1, rfl, h2, h3⟩))
  · go_ret2
    exact ⟨_, h1, rfl, h2, h3⟩
  · omega
  · omega
theorem row1 (w : World) (hT : TabAt 1 Lib.deBruijn64tab w) : Calls Tryd.prog 7 #[.int .i64 1] w fun r w' => ∃ g, w.heap.size ≤ g ∧ r = .returned (.tuple #[.slice (some ⟨g, 0, none⟩) 2 2, .int .i64 0]) ∧ w'.ownsRow g 30 1 (.slice (some ⟨g, 0, none⟩) 2 2) 2 (cz (rw7 T7 1 2)) ∧ Gr w w' := by
  have RT : Hid (Calls Tryd.prog 17 #[.int .i64 1, .int .i64 2] w fun r w' => ∃ g, w.heap.size ≤ g ∧ r = .returned (.tuple #[.slice (some ⟨g, 0, none⟩) 2 2, .int .i64 0]) ∧ w'.ownsRow g 30 1 (.slice (some ⟨g, 0, none⟩) 2 2) 2 (cz (rw7 T7 1 2)) ∧ Gr w w') := roots1 T7 2 w (tab7 1 (by omega)) (nearK 1 w (by omega) hT) (by omega)
  clear hT
  go_enter Tryd.func7, Tryd.ntmps7
  go_wp2_with (first | (go_at_call 16; (with_reducible refine (rightE _ _ ?_ ?_).mono ?_); rotate_right; rintro r w1 ⟨rfl, rfl⟩) | (go_at_call 17; (with_reducible refine RT.out.mono ?_); rintro r w1 ⟨g, h1, rfl, h2, h3⟩))
  · go_ret2
    exact ⟨_, h1, rfl, h2, h3⟩
  · omega
  · omega
theorem half1 (w : World) (hT : TabAt 1 Lib.deBruijn64tab w) : Calls Tryd.prog 13 #[.int .i64 1] w fun r w' => ∃ g, w.heap.size ≤ g ∧ r = .returned (.tuple #[.slice (some ⟨g, 0, none⟩) 1 1, .int .i64 0]) ∧ w'.ownsRow g 30 1 (.slice (some ⟨g, 0, none⟩) 1 1) 1 (cz (rw7 T7 1 1)) ∧ Gr w w' := by
  have RT : Hid (Calls Tryd.prog 17 #[.int .i64 1, .int .i64 1] w fun r w' => ∃ g, w.heap.size ≤ g ∧ r = .returned (.tuple #[.slice (some ⟨g, 0, none⟩) 1 1, .int .i64 0]) ∧ w'.ownsRow g 30 1 (.slice (some ⟨g, 0, none⟩) 1 1) 1 (cz (rw7 T7 1 1)) ∧ Gr w w') := roots1 T7 1 w (tab7 1 (by omega)) (nearK 1 w (by omega) hT) (by omega)
  clear hT
  have mx : max (1 : Int) 1 = 1 := by omega
  go_enter Tryd.func13, Tryd.ntmps13
  go_wp2_with (first | (go_at_call 16; (with_reducible refine (rightE _ _ ?_ ?_).mono ?_); rotate_right; rintro r w1 ⟨rfl, rfl⟩) | (go_at_call 17; (with_reducible refine RT.out.mono ?_); rintro r w1 ⟨g, h1, rfl, h2, h3⟩))
  · go_ret2
    exact ⟨_, h1, rfl, h2, h3⟩
  · omega
  · omega
theorem row2 (w : World) (hT : TabAt 1 Lib.deBruijn64tab w) : Calls Tryd.prog 7 #[.int .i64 2] w fun r w' => ∃ g, w.heap.size ≤ g ∧ r = .returned (.tuple #[.slice (some ⟨g, 0, none⟩) 4 4, .int .i64 0]) ∧ w'.ownsRow g 30 1 (.slice (some ⟨g, 0, none⟩) 4 4) 4 (cz (rw7 T7 2 4)) ∧ Gr w w' := by
  have RT : Hid (Calls Tryd.prog 17 #[.int .i64 2, .int .i64 4] w fun r w' => ∃ g, w.heap.size ≤ g ∧ r = .returned (.tuple #[.slice (some ⟨g, 0, none⟩) 4 4, .int .i64 0]) ∧ w'.ownsRow g 30 1 (.slice (some ⟨g, 0, none⟩) 4 4) 4 (cz (rw7 T7 2 4)) ∧ Gr w w') := roots2 T7 4 w (tab7 2 (by omega)) (nearK 2 w (by omega) hT) (by omega)
  clear hT
  go_enter Tryd.func7, Tryd.ntmps7
  go_wp2_with (first | (go_at_call 16; (with_reducible refine (rightE _ _ ?_ ?_).mono ?_); rotate_right; rintro r w1 ⟨rfl, rfl⟩) | (go_at_call 17; (with_reducible refine RT.out.mono ?_); rintro r w1 ⟨g, h1, rfl, h2, h3⟩))
  · go_ret2
    exact ⟨_, h1, rfl, h2, h3⟩
  · omega
  · omega
theorem half2 (w : World) (hT : TabAt 1 Lib.deBruijn64tab w) : Calls Tryd.prog 13 #[.int .i64 2] w fun r w' => ∃ g, w.heap.size ≤ g ∧ r = .returned (.tuple #[.slice (some ⟨g, 0, none⟩) 2 2, .int .i64 0]) ∧ w'.ownsRow g 30 1 (.slice (some ⟨g, 0, none⟩) 2 2) 2 (cz (rw7 T7 2 2)) ∧ Gr w w' := by
  have RT : Hid (Calls Tryd.prog 17 #[.int .i64 2, .int .i64 2] w fun r w' => ∃ g, w.heap.size ≤ g ∧ r = .returned (.tuple #[.slice (some ⟨g, 0, none⟩) 2 2, .int .i64 0]) ∧ w'.ownsRow g 30 1 (.slice (some ⟨g, 0, none⟩) 2 2) 2 (cz (rw7 T7 2 2)) ∧ Gr w w') := roots2 T7 2 w (tab7 2 (by omega)) (nearK 2 w (by omega) hT) (by omega)
  clear hT
  have mx : max (2 : Int) 1 = 2 := by omega
  go_enter Tryd.func13, Tryd.ntmps13
  go_wp2_with (first | (go_at_call 16; (with_reducible refine (rightE _ _ ?_ ?_).mono ?_); rotate_right; rintro r w1 ⟨rfl, rfl⟩) | (go_at_call 17; (with_reducible refine RT.out.mono ?_); rintro r w1 ⟨g, h1, rfl, h2, h3⟩))
  · go_ret2
    exact ⟨_, h1, rfl, h2, h3⟩
  · omega
  · omega
theorem row3 (w : World) (hT : TabAt 1 Lib.deBruijn64tab w) : Calls Tryd.prog 7 #[.int .i64 3] w fun r w' => ∃ g, w.heap.size ≤ g ∧ r = .returned (.tuple #[.slice (some ⟨g, 0, none⟩) 8 8, .int .i64 0]) ∧ w'.ownsRow g 30 1 (.slice (some ⟨g, 0, none⟩) 8 8) 8 (cz (rw7 T7 3 8)) ∧ Gr w w' := by
  have RT : Hid (Calls Tryd.prog 17 #[.int .i64 3, .int .i64 8] w fun r w' => ∃ g, w.heap.size ≤ g ∧ r = .returned (.tuple #[.slice (some ⟨g, 0, none⟩) 8 8, .int .i64 0]) ∧ w'.ownsRow g 30 1 (.slice (some ⟨g, 0, none⟩) 8 8) 8 (cz (rw7 T7 3 8)) ∧ Gr w w') := roots3 T7 8 w (tab7 3 (by omega)) (nearK 3 w (by omega) hT) (by omega)
  clear hT
  go_enter Tryd.func7, Tryd.ntmps7
  go_wp2_with (first | (go_at_call 16; (with_reducible refine (rightE _ _ ?_ ?_).mono ?_); rotate_right; rintro r w1 ⟨rfl, rfl⟩) | (go_at_call 17; (with_reducible refine RT.out.mono ?_); rintro r w1 ⟨g, h1, rfl, h2, h3⟩))
  · go_ret2
    exact ⟨_, h1, rfl, h2, h3⟩
  · omega
  · omega
theorem half3 (w : World) (hT : TabAt 1 Lib.deBruijn64tab w) : Calls Tryd.prog 13 #[.int .i64 3] w fun r w' => ∃ g, w.heap.size ≤ g ∧ r = .returned (.tuple #[.slice (some ⟨g, 0, none⟩) 4 4, .int .i64 0]) ∧ w'.ownsRow g 30 1 (.slice (some ⟨g, 0, none⟩) 4 4) 4 (cz (rw7 T7 3 4)) ∧ Gr w w' := by
  have RT : Hid (Calls Tryd.prog 17 #[.int .i64 3, .int .i64 4] w fun r w' => ∃ g, w.heap.size ≤ g ∧ r = .returned (.tuple #[.slice (some ⟨g, 0, none⟩) 4 4, .int .i64 0]) ∧ w'.ownsRow g 30 1 (.slice (some ⟨g, 0, none⟩) 4 4) 4 (cz (rw7 T7 3 4)) ∧ Gr w w') := roots3 T7 4 w (tab7 3 (by omega)) (nearK 3 w (by omega) hT) (by omega)
  clear hT
  have mx : max (4 : Int) 1 = 4 := by omega
  go_enter Tryd.func13, Tryd.ntmps13
  go_wp2_with (first | (go_at_call 16; (with_reducible refine (rightE _ _ ?_ ?_).mono ?_); rotate_right; rintro r w1 ⟨rfl, rfl⟩) | (go_at_call 17; (with_reducible refine RT.out.mono ?_); rintro r w1 ⟨g, h1, rfl, h2, h3⟩))
  · go_ret2
    exact ⟨_, h1, rfl, h2, h3⟩
  · omega
  · omega
theorem row4 (w : World) (hT : TabAt 1 Lib.deBruijn64tab w) : Calls Tryd.prog 7 #[.int .i64 4] w fun r w' => ∃ g, w.heap.size ≤ g ∧ r = .returned (.tuple #[.slice (some ⟨g, 0, none⟩) 16 16, .int .i64 0]) ∧ w'.ownsRow g 30 1 (.slice (some ⟨g, 0, none⟩) 16 16) 16 (cz (rw7 T7 4 16)) ∧ Gr w w' := by
  have RT : Hid (Calls Tryd.prog 17 #[.int .i64 4, .int .i64 16] w fun r w' => ∃ g, w.heap.size ≤ g ∧ r = .returned (.tuple #[.slice (some ⟨g, 0, none⟩) 16 16, .int .i64 0]) ∧ w'.ownsRow g 30 1 (.slice (some ⟨g, 0, none⟩) 16 16) 16 (cz (rw7 T7 4 16)) ∧ Gr w w') := roots4 T7 16 w (tab7 4 (by omega)) (nearK 4 w (by omega) hT) (by omega)
  clear hT
  go_enter Tryd.func7, Tryd.ntmps7
  go_wp2_with (first | (go_at_call 16; (with_reducible refine (rightE _ _ ?_ ?_).mono ?_); rotate_right; rintro r w1 ⟨rfl, rfl⟩) | (go_at_call 17; (with_reducible refine RT.out.mono ?_); rintro r w1 ⟨g, h1, rfl, h2, h3⟩))
  · go_ret2
    exact ⟨_, h1, rfl, h2, h3⟩
  · omega
  · omega
theorem half4 (w : World) (hT : TabAt 1 Lib.deBruijn64tab w) : Calls Tryd.prog 13 #[.int .i64 4] w fun r w' => ∃ g, w.heap.size ≤ g ∧ r = .returned (.tuple #[.slice (some ⟨g, 0, none⟩) 8 8, .int .i64 0]) ∧ w'.ownsRow g 30 1 (.slice (some ⟨g, 0, none⟩) 8 8) 8 (cz (rw7 T7 4 8)) ∧ Gr w w' := by
  have RT : Hid (Calls Tryd.prog 17 #[.int .i64 4, .int .i64 8] w fun r w' => ∃ g, w.heap.size ≤ g ∧ r = .returned (.tuple #[.slice (some ⟨g, 0, none⟩) 8 8, .int .i64 0]) ∧ w'.ownsRow g 30 1 (.slice (some ⟨g, 0, none⟩) 8 8) 8 (cz (rw7 T7 4 8)) ∧ Gr w w') := roots4 T7 8 w (tab7 4 (by omega)) (nearK 4 w (by omega) hT) (by omega)
  clear hT
  have mx : max (8 : Int) 1 = 8 := by omega
  go_enter Tryd.func13, Tryd.ntmps13
  go_wp2_with (first | (go_at_call 16; (with_reducible refine (rightE _ _ ?_ ?_).mono ?_); rotate_right; rintro r w1 ⟨rfl, rfl⟩) | (go_at_call 17; (with_reducible refine RT.out.mono ?_); rintro r w1 ⟨g, h1, rfl, h2, h3⟩))
  · go_ret2
    exact ⟨_, h1, rfl, h2, h3⟩
  · omega
  · omega
theorem row5 (w : World) (hT : TabAt 1 Lib.deBruijn64tab w) : Calls Tryd.prog 7 #[.int .i64 5] w fun r w' => ∃ g, w.heap.size ≤ g ∧ r = .returned (.tuple #[.slice (some ⟨g, 0, none⟩) 32 32, .int .i64 0]) ∧ w'.ownsRow g 30 1 (.slice (some ⟨g, 0, none⟩) 32 32) 32 (cz (rw7 T7 5 32)) ∧ Gr w w' := by
  have RT : Hid (Calls Tryd.prog 17 #[.int .i64 5, .int .i64 32] w fun r w' => ∃ g, w.heap.size ≤ g ∧ r = .returned (.tuple #[.slice (some ⟨g, 0, none⟩) 32 32, .int .i64 0]) ∧ w'.ownsRow g 30 1 (.slice (some ⟨g, 0, none⟩) 32 32) 32 (cz (rw7 T7 5 32)) ∧ Gr w w') := roots5 T7 32 w (tab7 5 (by omega)) (nearK 5 w (by omega) hT) (by omega)
  clear hT
  go_enter Tryd.func7, Tryd.ntmps7
  go_wp2_with (first | (go_at_call 16; (with_reducible refine (rightE _ _ ?_ ?_).mono ?_); rotate_right; rintro r w1 ⟨rfl, rfl⟩) | (go_at_call 17; (with_reducible refine RT.out.mono ?_); rintro r w1 ⟨g, h1, rfl, h2, h3⟩))
  · go_ret2
    exact ⟨_, h1, rfl, h2, h3⟩
  · omega
  · omega
theorem half5 (w : World) (hT : TabAt 1 Lib.deBruijn64tab w) : Calls Tryd.prog 13 #[.int .i64 5] w fun r w' => ∃ g, w.heap.size ≤ g ∧ r = .returned (.tuple #[.slice (some ⟨g, 0, none⟩) 16 16, .int .i64 0]) ∧ w'.ownsRow g 30 1 (.slice (some ⟨g, 0, none⟩) 16 16) 16 (cz (rw7 T7 5 16)) ∧ Gr w w' := by
  have RT : Hid (Calls Tryd.prog 17 #[.int .i64 5, .int .i64 16] w fun r w' => ∃ g, w.heap.size ≤ g ∧ r = .returned (.tuple #[.slice (some ⟨g, 0, none⟩) 16 16, .int .i64 0]) ∧ w'.ownsRow g 30 1 (.slice (some ⟨g, 0, none⟩) 16 16) 16 (cz (rw7 T7 5 16)) ∧ Gr w w') := roots5 T7 16 w (tab7 5 (by omega)) (nearK 5 w (by omega) hT) (by omega)
  clear hT
  have mx : max (16 : Int) 1 = 16 := by omega
  go_enter Tryd.func13, Tryd.ntmps13
  go_wp2_with (first | (go_at_call 16; (with_reducible refine (rightE _ _ ?_ ?_).mono ?_); rotate_right; rintro r w1 ⟨rfl, rfl⟩) | (go_at_call 17; (with_reducible refine RT.out.mono ?_); rintro r w1 ⟨g, h1, rfl, h2, h3⟩))
  · go_ret2
    exact ⟨_, h1, rfl, h2, h3⟩
  · omega
  · omega
theorem row6 (w : World) (hT : TabAt 1 Lib.deBruijn64tab w) : Calls Tryd.prog 7 #[.int .i64 6] w fun r w' => ∃ g, w.heap.size ≤ g ∧ r = .returned (.tuple #[.slice (some ⟨g, 0, none⟩) 64 64, .int .i64 0]) ∧ w'.ownsRow g 30 1 (.slice (some ⟨g, 0, none⟩) 64 64) 64 (cz (rw7 T7 6 64)) ∧ Gr w w' := by
  have RT : Hid (Calls Tryd.prog 17 #[.int .i64 6, .int .i64 64] w fun r w' => ∃ g, w.heap.size ≤ g ∧ r = .returned (.tuple #[.slice (some ⟨g, 0, none⟩) 64 64, .int .i64 0]) ∧ w'.ownsRow g 30 1 (.slice (some ⟨g, 0, none⟩) 64 64) 64 (cz (rw7 T7 6 64)) ∧ Gr w w') := roots6 T7 64 w (tab7 6 (by omega)) (nearK 6 w (by omega) hT) (by omega)
  clear hT
  go_enter Tryd.func7, Tryd.ntmps7
  go_wp2_with (first | (go_at_call 16; (with_reducible refine (rightE _ _ ?_ ?_).mono ?_); rotate_right; rintro r w1 ⟨rfl, rfl⟩) | (go_at_call 17; (with_reducible refine RT.out.mono ?_); rintro r w1 ⟨g, h1, rfl, h2, h3⟩))
  · go_ret2
    exact ⟨_, h1, rfl, h2, h3⟩
  · omega
  · omega
theorem half6 (w : World) (hT : TabAt 1 Lib.deBruijn64tab w) : Calls Tryd.prog 13 #[.int .i64 6] w fun r w' => ∃ g, w.heap.size ≤ g ∧ r = .returned (.tuple #[.slice (some ⟨g, 0, none⟩) 32 32, .int .i64 0]) ∧ w'.ownsRow g 30 1 (.slice (some ⟨g, 0, none⟩) 32 32) 32 (cz (rw7 T7 6 32)) ∧ Gr w w' := by
  have RT : Hid (Calls Tryd.prog 17 #[.int .i64 6, .int .i64 32] w fun r w' => ∃ g, w.heap.size ≤ g ∧ r = .returned (.tuple #[.slice (some ⟨g, 0, none⟩) 32 32, .int .i64 0]) ∧ w'.ownsRow g 30 1 (.slice (some ⟨g, 0, none⟩) 32 32) 32 (cz (rw7 T7 6 32)) ∧ Gr w w') := roots6 T7 32 w (tab7 6 (by omega)) (nearK 6 w (by omega) hT) (by omega)
  clear hT
  have mx : max (32 : Int) 1 = 32 := by omega
  go_enter Tryd.func13, Tryd.ntmps13
  go_wp2_with (first | (go_at_call 16; (with_reducible refine (rightE _ _ ?_ ?_).mono ?_); rotate_right; rintro r w1 ⟨rfl, rfl⟩) | (go_at_call 17; (with_reducible refine RT.out.mono ?_); rintro r w1 ⟨g, h1, rfl, h2, h3⟩))
  · go_ret2
    exact ⟨_, h1, rfl, h2, h3⟩
  · omega
  · omega
theorem row7 (w : World) (hT : TabAt 1 Lib.deBruijn64tab w) : Calls Tryd.prog 7 #[.int .i64 7] w fun r w' => ∃ g, w.heap.size ≤ g ∧ r = .returned (.tuple #[.slice (some ⟨g, 0, none⟩) 128 128, .int .i64 0]) ∧ w'.ownsRow g 30 1 (.slice (some ⟨g, 0, none⟩) 128 128) 128 (cz (rw7 T7 7 128)) ∧ Gr w w' := by
  have RT : Hid (Calls Tryd.prog 17 #[.int .i64 7, .int .i64 128] w fun r w' => ∃ g, w.heap.size ≤ g ∧ r = .returned (.tuple #[.slice (some ⟨g, 0, none⟩) 128 128, .int .i64 0]) ∧ w'.ownsRow g 30 1 (.slice (some ⟨g, 0, none⟩) 128 128) 128 (cz (rw7 T7 7 128)) ∧ Gr w w') := roots7 T7 128 w (tab7 7 (by omega)) (nearK 7 w (by omega) hT) (by omega)
  clear hT
  go_enter Tryd.func7, Tryd.ntmps7
  go_wp2_with (first | (go_at_call 16; (with_reducible refine (rightE _ _ ?_ ?_).mono ?_); rotate_right; rintro r w1 ⟨rfl, rfl⟩) | (go_at_call 17; (with_reducible refine RT.out.mono ?_); rintro r w1 ⟨g, h1, rfl, h2, h3⟩))
  · go_ret2
    exact ⟨_, h1, rfl, h2, h3⟩
  · omega
  · omega
theorem half7 (w : World) (hT : TabAt 1 Lib.deBruijn64tab w) : Calls Tryd.prog 13 #[.int .i64 7] w fun r w' => ∃ g, w.heap.size ≤ g ∧ r = .returned (.tuple #[.slice (some ⟨g, 0, none⟩) 64 64, .int .i64 0]) ∧ w'.ownsRow g 30 1 (.slice (some ⟨g, 0, none⟩) 64 64) 64 (cz (rw7 T7 7 64)) ∧ Gr w w' := by
  have RT : Hid (Calls Tryd.prog 17 #[.int .i64 7, .int .i64 64] w fun r w' => ∃ g, w.heap.size ≤ g ∧ r = .returned (.tuple #[.slice (some ⟨g, 0, none⟩) 64 64, .int .i64 0]) ∧ w'.ownsRow g 30 1 (.slice (some ⟨g, 0, none⟩) 64 64) 64 (cz (rw7 T7 7 64)) ∧ Gr w w') := roots7 T7 64 w (tab7 7 (by omega)) (nearK 7 w (by omega) hT) (by omega)
  clear hT
  have mx : max (64 : Int) 1 = 64 := by omega
  go_enter Tryd.func13, Tryd.ntmps13
  go_wp2_with (first | (go_at_call 16; (with_reducible refine (rightE _ _ ?_ ?_).mono ?_); rotate_right; rintro r w1 ⟨rfl, rfl⟩) | (go_at_call 17; (with_reducible refine RT.out.mono ?_); rintro r w1 ⟨g, h1, rfl, h2, h3⟩))
  · go_ret2
    exact ⟨_, h1, rfl, h2, h3⟩
  · omega
  · omega
theorem rowE (k : Nat) (w : World) (hk : k ≤ 7) (hT : TabAt 1 Lib.deBruijn64tab w) : Calls Tryd.prog 7 #[.int .i64 (k : Int)] w fun r w' => ∃ g, w.heap.size ≤ g ∧ r = .returned (.tuple #[.slice (some ⟨g, 0, none⟩) (2 ^ k) (2 ^ k), .int .i64 0]) ∧ w'.ownsRow g 30 1 (.slice (some ⟨g, 0, none⟩) (2 ^ k) (2 ^ k)) (2 ^ k) (cz (rw7 T7 k (2 ^ k))) ∧ Gr w w' := by
  rcases (show k = 0 ∨ k = 1 ∨ k = 2 ∨ k = 3 ∨ k = 4 ∨ k = 5 ∨ k = 6 ∨ k = 7 by omega) with rfl | rfl | rfl | rfl | rfl | rfl | rfl | rfl
  · exact row0 w hT
  · exact row1 w hT
  · exact row2 w hT
  · exact row3 w hT
  · exact row4 w hT
  · exact row5 w hT
  · exact row6 w hT
  · exact row7 w hT
end Go.Proofs.YtfgaifbnhdgkgaaDoor
namespace Go.Proofs.YtfgaifbnhdgkgaaDoor
open Go.RowKit
open Ieee
set_option linter.unusedVariables false

/-! WHAT THE STATEMENTS HOLD AGAINST EACH OTHER -/
theorem pick8 (x : Int) (w : World) : Calls Tryd.prog 6 #[.int .i64 x, .int .i64 8] w fun r w' => ∃ p : Nat, r = .returned (.int .i64 (p : Int)) ∧ p ≤ 7 ∧ w' = w := by
  have b1 : -8 < x.tmod 8 := by have := Int.lt_tmod_of_pos x (by omega : (0 : Int) < 8); omega
  have b2 : x.tmod 8 < 8 := Int.tmod_lt_of_pos x (by omega)
  have h8 : ((8 : Int) == 0) = false := by decide
  generalize hy : x.tmod 8 = y at *
  by_cases hn : y < 0
  · go_enter Tryd.func6, Tryd.ntmps6
    go_wp2
    go_ret
    exact ⟨(y + 8).toNat, by rw [Int.toNat_of_nonneg (by omega)]; rfl, by omega, rfl⟩
  · go_enter Tryd.func6, Tryd.ntmps6
    go_wp2
    go_ret
    exact ⟨y.toNat, by rw [Int.toNat_of_nonneg (by omega)]; rfl, by omega, rfl⟩
theorem sameF (x : Nat) (w : World) : Calls Tryd.prog 15 #[.float .f64 x, .float .f64 x] w fun e w' => e = .returned (.bool true) ∧ w' = w := by
  have h1 := Fl.bits14
  go_enter Tryd.func15, Tryd.ntmps15
  go_wp2
  go_ret
  exact ⟨rfl, rfl⟩
theorem sameN (x y : Nat) (w : World) : Calls Tryd.prog 8 #[.complex .f64 x y, .complex .f64 x y] w fun e w' => e = .returned (.bool true) ∧ w' = w := by
  go_enter Tryd.func8, Tryd.ntmps8
  go_wp2_with (go_at_call 15; (with_reducible refine (sameF _ _).mono ?_); rintro r w1 ⟨rfl, rfl⟩)
  go_ret
  exact ⟨rfl, rfl⟩
set_option maxHeartbeats 1600000 in
theorem sameRowsE (g1 g2 n c1 c2 : Nat) (f : Nat → Nat × Nat) (w : World) (h1 : ∀ j, j < n → w.cell? ⟨g1, j, none⟩ = some (.complex .f64 (f j).1 (f j).2)) (h2 : ∀ j, j < n → w.cell? ⟨g2, j, none⟩ = some (.complex .f64 (f j).1 (f j).2)) (hn : n ≤ 4096) :
    Calls Tryd.prog 14 #[.slice (some ⟨g1, 0, none⟩) n c1, .slice (some ⟨g2, 0, none⟩) n c2] w fun r w' => r = .returned (.bool true) ∧ Gr w w' := by
  have H1 := hide h1
  have H2 := hide h2
  clear h1 h2
  go_enter Tryd.func14, Tryd.ntmps14
  go_wp2
  go_loopw [5] (fun i wr => ∃ j : Nat, j ≤ n ∧ i = .int .i64 (j : Int) ∧ Hid (Gr w wr)) (fun i _ => n - (intOf i).toNat)
  case atStart => exact ⟨0, by omega, rfl, Gr.refl _⟩
  case round =>
    obtain ⟨j, hj, rfl, hg⟩ := hrel
    by_cases hlt : j < n
    · have i1 : (j : Int) < (n : Int) := by omega
      have k1 := hg.out.keep (H1.out j hlt)
      have k2 := hg.out.keep (H2.out j hlt)
      generalize (f j).1 = x at *
      generalize (f j).2 = y at *
      go_wp2
      go_region_with (go_at_call 8; (with_reducible refine (sameN _ _ _).mono ?_); rintro r w3 ⟨rfl, rfl⟩)
      go_wp2
      go_roundw
      case rel => exact ⟨j + 1, by omega, by go_num, hg.out.drew⟩
      case measure => simp only [intOf]; omega
      exact ⟨⟨j + 1, by omega, by go_num, hg.out.drew⟩, by simp only [intOf]; omega⟩
    · have i1 : ¬ (j : Int) < (n : Int) := by omega
      go_wp2
      go_ret
      exact ⟨rfl, hg.out⟩
end Go.Proofs.YtfgaifbnhdgkgaaDoor
namespace Go.Proofs.YtfgaifbnhdgkgaaDoor
open Go.RowKit
open Ieee
set_option linter.unusedVariables false

/-! WHEEL: AWAKE -/
theorem rootE (k i : Nat) (st : Int) (w : World) (hT : TabAt 1 Lib.deBruijn64tab w) (hk : k ≤ 7) (hi : i < 2 ^ k) (hs : st % ((2 ^ k : Nat) : Int) = (i : Int)) :
    Calls Tryd.prog 9 #[.int .i64 (k : Int), .int .i64 st] w fun r w' => r = .returned (.tuple #[.complex .f64 (tv T7 k i).1 (tv T7 k i).2, .int .i64 0]) ∧ Gr w w' := by
  have NR := hide (near7o k i st w hT hk hi hs)
  rw [show T7.getD (i * 2 ^ (7 - k)) (0, 0) = tv T7 k i from rfl] at NR
  generalize (tv T7 k i).1 = x at *
  generalize (tv T7 k i).2 = y at *
  clear hT hs
  go_enter Tryd.func9, Tryd.ntmps9
  go_wp2_with (go_at_call 18; (with_reducible refine NR.out.mono ?_); rintro r w1 ⟨rfl, g1⟩)
  go_ret2
  exact ⟨rfl, g1⟩
theorem r2_a : (rw7 T7 2 4).getD 0 (0, 0) = (4607182418800017408, 0) := by decide +kernel
theorem r2_b : (rw7 T7 2 4).getD 1 (0, 0) = (0, 4607182418800017408) := by decide +kernel
theorem r2_c : (rw7 T7 2 4).getD 2 (0, 0) = (13830554455654793216, 0) := by decide +kernel
theorem r2_d : (rw7 T7 2 4).getD 3 (0, 0) = (0, 13830554455654793216) := by decide +kernel
theorem lit4 (w : World) (j : Nat) (hj : j < 4) : (w.alloc (.cells #[.complex .f64 4607182418800017408 0, .complex .f64 0 4607182418800017408, .complex .f64 13830554455654793216 0, .complex .f64 0 13830554455654793216] 30)).cell? ⟨w.heap.size, j, none⟩ = some (.complex .f64 ((rw7 T7 2 4).getD j (0, 0)).1 ((rw7 T7 2 4).getD j (0, 0)).2) := by
  rw [World.cell?_alloc_at _ _ _ _ rfl]
  rcases (show j = 0 ∨ j = 1 ∨ j = 2 ∨ j = 3 by omega) with rfl | rfl | rfl | rfl
  · rw [r2_a]; rfl
  · rw [r2_b]; rfl
  · rw [r2_c]; rfl
  · rw [r2_d]; rfl
theorem r2_1 : (rw7 T7 2 2).getD 1 (0, 0) = (0, 4607182418800017408) := by decide +kernel
theorem tv23 : tv T7 2 3 = (0, 13830554455654793216) := by decide +kernel
theorem eqC1 (w : World) : (binOp .eql 30 (.complex .f64 0 4607182418800017408) (.complex .f64 0 4607182418800017408)).run Tryd.prog w = .ok (.bool true) w := by kernel_rfl
theorem eqC2 (w : World) : (binOp .eql 30 (.complex .f64 0 13830554455654793216) (.complex .f64 0 13830554455654793216)).run Tryd.prog w = .ok (.bool true) w := by kernel_rfl
set_option maxHeartbeats 1600000 in
theorem awakeE (w : World) (hT : TabAt 1 Lib.deBruijn64tab w) : Calls Tryd.prog 5 #[] w fun r w' => r = .returned (.bool true) ∧ Gr w w' := by
  have R2 := hide (fun w1 (g : Gr w w1) => row2 w1 (tab_gr hT g))
  have H2 := hide (fun w1 (g : Gr w w1) => half2 w1 (tab_gr hT g))
  have Z2 : Hid (∀ w1, Gr w w1 → Calls Tryd.prog 9 #[.int .i64 2, .int .i64 3] w1 fun r w' => r = .returned (.tuple #[.complex .f64 0 13830554455654793216, .int .i64 0]) ∧ Gr w1 w') := fun w1 g => by
    have h := rootE 2 3 3 w1 (tab_gr hT g) (by omega) (by omega) (by decide)
    rw [tv23] at h
    exact h
  have e1 := eqC1
  have e2 := eqC2
  clear hT
  go_enter Tryd.func5, Tryd.ntmps5
  go_wp2_with (first | (go_at_call 7; (with_reducible refine (R2.out _ (Gr.refl _)).mono ?_); rintro r w1 ⟨g, hg0, rfl, hl, g1⟩) | (go_at_call 13; (with_reducible refine (H2.out _ g1).mono ?_); rintro r w2 ⟨gh, hg0', rfl, hh, g2⟩) | (go_at_call 9; (with_reducible refine (Z2.out _ (g1.trans g2)).mono ?_); rintro r w3 ⟨rfl, g3⟩; have hl3 := (g2.trans g3).owns hl; have hh3 := g3.owns hh; have hc3 := ownsC_cell hh3 1 (by omega); rw [r2_1] at hc3) | (go_at_call 14; refine (sameRowsE _ _ 4 _ _ (fun j => (rw7 T7 2 4).getD j (0, 0)) _ ?_ ?_ ?_).mono ?_; rotate_right; rintro r w5 ⟨rfl, g5⟩; have hc5 := g5.keep (((Gr.refl w3).alloc _).keep hc3)))
  · go_ret
    exact ⟨rfl, (g1.trans g2).trans (g3.trans (((Gr.refl w3).alloc _).trans g5))⟩
  · exact fun j hj => ((Gr.refl w3).alloc _).keep (ownsC_cell hl3 j hj)
  · exact fun j hj => lit4 w3 j hj
  · omega
end Go.Proofs.YtfgaifbnhdgkgaaDoor
