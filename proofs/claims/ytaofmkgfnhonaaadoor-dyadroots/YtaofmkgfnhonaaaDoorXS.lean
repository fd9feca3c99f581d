import Derived.Test.YtaofmkgfnhonaaaDoorXR
namespace Go.Proofs.YtaofmkgfnhonaaaDoor
open Go.RowKit
set_option linter.unusedVariables false

theorem one_is : sv KK false 3 (-2) + sv KK false 1 (-2) = sv KK false 1 0 := by
  have hk := KK_eq
  have h1 := plus_same (K := KK) (s := false) (m := 3) (n := 1) (e := -2) (f := -2) (by omega) (by omega)
  have h2 := sv_down KK false 1 0 (-2) (by omega) (by omega)
  rw [← h1, ← h2]
  rfl
theorem box_cells {w : World} {a0 a1 a2 : Value} : (w.alloc (.cells #[a0, a1, a2] 24)).cell? ⟨w.heap.size, 0, none⟩ = some a0 ∧ (w.alloc (.cells #[a0, a1, a2] 24)).cell? ⟨w.heap.size, 1, none⟩ = some a1 ∧ (w.alloc (.cells #[a0, a1, a2] 24)).cell? ⟨w.heap.size, 2, none⟩ = some a2 := ⟨by simp, by simp, by simp⟩
set_option maxHeartbeats 3200000 in
theorem awake7 (w : World) (hT : TabAt 1 Lib.deBruijn64tab w) :
    Calls Tryd.prog 4 #[] w fun r w' => r = .returned (.bool true) ∧ Gr w w' := by
  have A1 : Hid (∀ w1, Calls Tryd.prog 9 #[.bool false, .int .u64 3, .int .i64 (-2)] w1 fun r w' => ∃ ad cap, r = .returned (.agg #[.bool false, .slice ad 1 cap, .int .i64 (-2)]) ∧ Lim w' ad 1 cap 18446744073709551616 3 ∧ Gr w1 w') := fun w1 => small19 false 3 (-2) w1 (by omega) (by omega)
  have A2 : Hid (∀ w1, Calls Tryd.prog 9 #[.bool false, .int .u64 1, .int .i64 (-2)] w1 fun r w' => ∃ ad cap, r = .returned (.agg #[.bool false, .slice ad 1 cap, .int .i64 (-2)]) ∧ Lim w' ad 1 cap 18446744073709551616 1 ∧ Gr w1 w') := fun w1 => small19 false 1 (-2) w1 (by omega) (by omega)
  have A3 : Hid (∀ w1, Calls Tryd.prog 9 #[.bool false, .int .u64 1, .int .i64 1] w1 fun r w' => ∃ ad cap, r = .returned (.agg #[.bool false, .slice ad 1 cap, .int .i64 1]) ∧ Lim w' ad 1 cap 18446744073709551616 1 ∧ Gr w1 w') := fun w1 => small19 false 1 1 w1 (by omega) (by omega)
  have A4 : Hid (∀ w1, Calls Tryd.prog 9 #[.bool true, .int .u64 3, .int .i64 (-1)] w1 fun r w' => ∃ ad cap, r = .returned (.agg #[.bool true, .slice ad 1 cap, .int .i64 (-1)]) ∧ Lim w' ad 1 cap 18446744073709551616 3 ∧ Gr w1 w') := fun w1 => small19 true 3 (-1) w1 (by omega) (by omega)
  have A5 : Hid (∀ w1, Calls Tryd.prog 9 #[.bool false, .int .u64 1, .int .i64 0] w1 fun r w' => ∃ ad cap, r = .returned (.agg #[.bool false, .slice ad 1 cap, .int .i64 0]) ∧ Lim w' ad 1 cap 18446744073709551616 1 ∧ Gr w1 w') := fun w1 => small19 false 1 0 w1 (by omega) (by omega)
  have A6 : Hid (∀ w1, Calls Tryd.prog 9 #[.bool false, .int .u64 23, .int .i64 (-4)] w1 fun r w' => ∃ ad cap, r = .returned (.agg #[.bool false, .slice ad 1 cap, .int .i64 (-4)]) ∧ Lim w' ad 1 cap 18446744073709551616 23 ∧ Gr w1 w') := fun w1 => small19 false 23 (-4) w1 (by omega) (by omega)
  have AD : Hid (∀ a1 c1 a2 c2 w1, Gr w w1 → Lim w1 a1 1 c1 18446744073709551616 3 → Lim w1 a2 1 c2 18446744073709551616 1 → Calls Tryd.prog 8 #[.agg #[.bool false, .slice a1 1 c1, .int .i64 (-2)], .agg #[.bool false, .slice a2 1 c2, .int .i64 (-2)]] w1 fun r w' => ∃ s' ad n cap e', r = .returned (.tuple #[.agg #[.bool s', .slice ad n cap, .int .i64 e'], .int .i64 0]) ∧ Hid (DyV w' s' ad n cap e' (sv KK false 1 0)) ∧ Gr w1 w') := fun a1 c1 a2 c2 w1 g h1 h2 => by
    have := addG false false a1 a2 1 1 c1 c2 (-2) (-2) _ _ w1 20000 42560 ⟨3, ⟨h1, by omega, Or.inr ⟨1, rfl, by omega, by omega⟩⟩, rfl⟩ ⟨1, ⟨h2, by omega, Or.inr ⟨0, rfl, by omega, by omega⟩⟩, rfl⟩ (tab_gr hT g) (gd_of (n := 2) (by decide) (by omega) (by omega) (by omega)) (gd_of (n := 2) (by decide) (by omega) (by omega) (by omega)) (by omega) (by omega)
    rw [one_is] at this
    exact this
  have RT : Hid (∀ a1 c1 w1, Gr w w1 → Lim w1 a1 1 c1 18446744073709551616 1 → Calls Tryd.prog 7 #[.agg #[.bool false, .slice a1 1 c1, .int .i64 1], .int .i64 (-4), .bool true] w1 fun r w' => ∃ s' ad n cap e', r = .returned (.tuple #[.agg #[.bool s', .slice ad n cap, .int .i64 e'], .int .i64 0]) ∧ Hid (DyV w' s' ad n cap e' (sv KK false 23 (-4))) ∧ Gr w1 w') := fun a1 c1 w1 g h1 => root2 a1 c1 w1 h1 (tab_gr hT g)
  have FL : Hid (∀ a1 c1 w1, Lim w1 a1 1 c1 18446744073709551616 3 → Calls Tryd.prog 13 #[.agg #[.bool true, .slice a1 1 c1, .int .i64 (-1)]] w1 fun r w' => r = .returned (.tuple #[.float .f64 13832806255468478464, .int .i64 0]) ∧ Gr w1 w') := fun a1 c1 w1 h1 => float3 a1 c1 w1 h1
  clear hT
  have F1 : (FloatKind.f64.format.order 13832806255468478464 13832806255468478464 == some .eq) = true := by decide +kernel
  go_enter Tryd.func4, Tryd.ntmps4
  go_wp2_with (first | (go_at_call 9; (with_reducible refine (A1.out _).mono ?_); rintro r w1 ⟨ad1, k1, rfl, l1, g1⟩) | (go_at_call 9; (with_reducible refine (A2.out _).mono ?_); rintro r w2 ⟨ad2, k2, rfl, l2, g2⟩; have l1' := l1.gr g2) | (go_at_call 8; (with_reducible refine (AD.out _ _ _ _ _ (g1.trans g2) l1' l2).mono ?_); rintro r w3 ⟨s1, a1, n1, c1, e1, rfl, D1, g3⟩; have G3 := (((g1.trans g2).trans g3).alloc (.cells #[.bool s1, .slice a1 n1 c1, .int .i64 e1] 24)); clear g1 g2 g3 l1 l2 l1'; have D1' := D1.out.gr ((Gr.refl w3).alloc (.cells #[.bool s1, .slice a1 n1 c1, .int .i64 e1] 24)); have B1 : Hid _ := box_cells (w := w3) (a0 := .bool s1) (a1 := .slice a1 n1 c1) (a2 := .int .i64 e1)) | (go_at_call 9; (with_reducible refine (A3.out _).mono ?_); rintro r w4 ⟨ad4, k4, rfl, l4, g4⟩) | (go_at_call 7; (with_reducible refine (RT.out _ _ _ (G3.trans g4) l4).mono ?_); rintro r w5 ⟨s2, a2, n2, c2, e2, rfl, D2, g5⟩; have G5 := ((g4.trans g5).alloc (.cells #[.bool s2, .slice a2 n2 c2, .int .i64 e2] 24)); clear g4 g5 l4; have D2' := D2.out.gr ((Gr.refl w5).alloc (.cells #[.bool s2, .slice a2 n2 c2, .int .i64 e2] 24)); have B2 : Hid _ := box_cells (w := w5) (a0 := .bool s2) (a1 := .slice a2 n2 c2) (a2 := .int .i64 e2)) | (go_at_call 9; (with_reducible refine (A4.out _).mono ?_); rintro r w6 ⟨ad6, k6, rfl, l6, g6⟩) | (go_at_call 13; (with_reducible refine (FL.out _ _ _ l6).mono ?_); rintro r w7 ⟨rfl, g7⟩))
  have DA : Hid (DyV w7 s1 a1 n1 c1 e1 (sv KK false 1 0)) := ((D1'.gr G5).gr g6).gr g7
  have DB : Hid (DyV w7 s2 a2 n2 c2 e2 (sv KK false 23 (-4))) := (D2'.gr g6).gr g7
  have G7 : Hid (Gr w w7) := ((G3.trans G5).trans g6).trans g7
  have hS0 : (w7.drew.cell? ⟨w3.heap.size, 0, none⟩ = some (.bool s1) ∧ w7.drew.cell? ⟨w3.heap.size, 1, none⟩ = some (.slice a1 n1 c1) ∧ w7.drew.cell? ⟨w3.heap.size, 2, none⟩ = some (.int .i64 e1) ∧ w7.drew.cell? ⟨w5.heap.size, 0, none⟩ = some (.bool s2) ∧ w7.drew.cell? ⟨w5.heap.size, 1, none⟩ = some (.slice a2 n2 c2) ∧ w7.drew.cell? ⟨w5.heap.size, 2, none⟩ = some (.int .i64 e2)) ∧ Gr w7 w7.drew :=
    ⟨⟨g7.keep (g6.keep (G5.keep B1.out.1)), g7.keep (g6.keep (G5.keep B1.out.2.1)), g7.keep (g6.keep (G5.keep B1.out.2.2)), g7.keep (g6.keep B2.out.1), g7.keep (g6.keep B2.out.2.1), g7.keep (g6.keep B2.out.2.2)⟩, (Gr.refl w7).drew⟩
  clear D1 D2 D1' D2' B1 B2 l6 g6 g7 G3 G5 A1 A2 A3 A4 AD RT FL
  generalize w3.heap.size = pa at *
  generalize w5.heap.size = pb at *
  have I1 : Hid (∀ a4 c4 w1, Gr w7 w1 → Lim w1 a4 1 c4 18446744073709551616 1 → Calls Tryd.prog 14 #[.agg #[.bool s1, .slice a1 n1 c1, .int .i64 e1], .int .i64 0, .agg #[.bool false, .slice a4 1 c4, .int .i64 0], .int .i64 0] w1 fun r w' => r = .returned (.bool true) ∧ Gr w1 w') := fun a4 c4 w1 g h => is25 s1 false a1 a4 n1 1 c1 c4 e1 0 _ w1 (DA.out.gr g) ⟨1, ⟨h, by omega, Or.inr ⟨0, rfl, by omega, by omega⟩⟩, rfl⟩
  have I2 : Hid (∀ a4 c4 w1, Gr w7 w1 → Lim w1 a4 1 c4 18446744073709551616 23 → Calls Tryd.prog 14 #[.agg #[.bool s2, .slice a2 n2 c2, .int .i64 e2], .int .i64 0, .agg #[.bool false, .slice a4 1 c4, .int .i64 (-4)], .int .i64 0] w1 fun r w' => r = .returned (.bool true) ∧ Gr w1 w') := fun a4 c4 w1 g h => is25 s2 false a2 a4 n2 1 c2 c4 e2 (-4) _ w1 (DB.out.gr g) ⟨23, ⟨h, by omega, Or.inr ⟨11, rfl, by omega, by omega⟩⟩, rfl⟩
  go_region_held3 (fun w' => (w'.cell? ⟨pa, 0, none⟩ = some (.bool s1) ∧ w'.cell? ⟨pa, 1, none⟩ = some (.slice a1 n1 c1) ∧ w'.cell? ⟨pa, 2, none⟩ = some (.int .i64 e1) ∧ w'.cell? ⟨pb, 0, none⟩ = some (.bool s2) ∧ w'.cell? ⟨pb, 1, none⟩ = some (.slice a2 n2 c2) ∧ w'.cell? ⟨pb, 2, none⟩ = some (.int .i64 e2)) ∧ Gr w7 w') (first | (with_reducible assumption) | (apply keep6; (with_reducible assumption); (with_reducible assumption))) (first | (go_at_call 9; (with_reducible refine (A5.out _).mono ?_); rintro r w8 ⟨ad8, k8, rfl, l8, g8⟩) | (go_at_call 9; (with_reducible refine (A6.out _).mono ?_); rintro r w9 ⟨ad9, k9, rfl, l9, g9⟩) | (go_at_call 14; (with_reducible refine (I1.out _ _ _ ?gg l8).mono ?_); (case gg => exact And.right ‹_ ∧ Gr w7 _›); rintro r w10 ⟨rfl, g10⟩) | (go_at_call 14; (with_reducible refine (I2.out _ _ _ ?gg l9).mono ?_); (case gg => exact And.right ‹_ ∧ Gr w7 _›); rintro r w11 ⟨rfl, g11⟩))
  go_wp2
  go_ret
  exact ⟨rfl, G7.out.trans (((((Gr.refl w7).drew.trans g8).trans g10).trans g9).trans g11)⟩
end Go.Proofs.YtaofmkgfnhonaaaDoor
