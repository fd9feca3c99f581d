import Derived.Test.YthilajhciifhaaaGreatDoorM40
import Derived.Test.YthilajhciifhaaaGreatDoorM08
import Derived.LoopTactic
import Derived.Test.YthilajhciifhaaaGreatDoorRows
import Derived.WalkKit
import Derived.ProofKit
import Derived.OpenShut
import Derived.LaidMore
import Derived.Stop.Joined
import Derived.Laws.Cover2
import Derived.ChangeSlices
import Derived.Carry
import Derived.Deep.Strs
namespace Go.Proofs.YthilajhciifhaaaGreatDoor
open Go.RowKit
set_option linter.unusedVariables false

/-! awake -/
theorem un24 (x : Int) : x * Un 2 = (4 * x) * Un 4 := by
  rw [Un_split (P := 2) (Q := 4) (by omega) (by omega)]
  show x * (4 * Un 4) = _
  rw [← Int.mul_assoc, Int.mul_comm x 4]
theorem w11 : sv KK false 11 (-4) = 11 * Un 4 := un_sv false 11 4 (by omega)
theorem w3 : sv KK false 3 (-2) = 12 * Un 4 := (un_sv false 3 2 (by omega)).trans (un24 3)
theorem w11n : sv KK true 11 (-4) = (-11) * Un 4 := un_sv true 11 4 (by omega)
theorem w3n : sv KK true 3 (-2) = (-12) * Un 4 := (un_sv true 3 2 (by omega)).trans (un24 (-3))
theorem w1 : sv KK false 1 0 = 1 * Un 0 := un_sv false 1 0 (by omega)
theorem w1n : sv KK true 1 0 = (-1) * Un 0 := un_sv true 1 0 (by omega)
theorem ofV (s : Bool) (v : Nat) (e V : Int) (q : Nat) (v0 : v = 2 * q + 1) (v1 : v < 18446744073709551616) (e1 : -1048576 ≤ e) (e2 : e ≤ 1048576) (hV : sv KK s v e = V) (w : World) :
    Calls Tryz.prog 25 #[.bool s, .int .u64 (v : Int), .int .i64 e] w fun r w' => (∃ ad cap, r = .returned (.agg #[.bool s, .slice ad 1 cap, .int .i64 e]) ∧ DyV w' s ad 1 cap e V) ∧ Gr w w' := by
  rw [← hV]
  exact of25 s v e w q v0 v1 e1 e2
theorem gvI {w : World} {s1 s2 : Bool} {a1 a2 : Option Addr} {n1 n2 c1 c2 : Nat} {e1 e2 L H : Int} (p1 : DyV w s1 a1 n1 c1 e1 L) (p2 : DyV w s2 a2 n2 c2 e2 H) : Gv w (.agg #[.bool s1, .slice a1 n1 c1, .int .i64 e1, .bool s2, .slice a2 n2 c2, .int .i64 e2]) L H := ⟨s1, a1, n1, c1, e1, s2, a2, n2, c2, e2, rfl, p1, p2⟩
set_option maxRecDepth 10000 in
set_option maxHeartbeats 8000000 in
theorem awake33 (w : World) (hT : TabAt 1 Lib.deBruijn64tab w) : Calls Tryz.prog 33 #[] w fun r w' => r = .returned (.bool true) ∧ Gr w w' := by
  have C : Hid (Calls Tryz.prog 26 #[.int .i64 3, .int .i64 1, .int .i64 4] w fun r w' => (∃ v, r = .returned (.tuple #[v, .int .i64 0]) ∧ Gv w' v (11 * Un 4) (12 * Un 4)) ∧ Gr w w') := cos3_4 w hT
  have N3 : Hid (∀ w1, Gr w w1 → Calls Tryz.prog 30 #[.int .i64 3, .int .i64 1] w1 fun r w' => r = .returned (.tuple #[.complex .f64 4604544271217802189 4604544271217802189, .int .i64 0]) ∧ Gr w1 w') := fun w1 g => near3 w1 (tab_gr hT g)
  clear hT
  go_enter Tryz.func33, Tryz.ntmps33
  go_wp2_with (first | (go_at_call 26; (with_reducible refine C.out.mono ?_); rintro r w1 ⟨⟨_, rfl, s1, a1, n1, c1, e1, s2, a2, n2, c2, e2, rfl, p1, p2⟩, g1⟩) | (go_at_call 30; (with_reducible refine (N3.out _ (g1.alloc _)).mono ?_); rintro r w2 ⟨rfl, g2⟩))
  have K := g2.keepH (new_at w1 (.cells #[.bool s1, .slice a1 n1 c1, .int .i64 e1, .bool s2, .slice a2 n2 c2, .int .i64 e2] 51))
  have G2 := (g1.alloc (.cells #[.bool s1, .slice a1 n1 c1, .int .i64 e1, .bool s2, .slice a2 n2 c2, .int .i64 e2] 51)).trans g2
  have gA : Gr w1 w2 := ((Gr.refl w1).alloc _).trans g2
  have P1 := p1.gr gA
  have P2 := p2.gr gA
  obtain ⟨x0, x1, x2, x3, x4, x5, -⟩ := out6 K
  refine Code.wp_mono ?_ (regW33 _ _ _ _ _ _ _ _ _ _ _ _ _ _ _ _ _ _ _ _ _ _ w1.heap.size _ _ _ _ _ _ (11 * Un 4) (12 * Un 4) 0 0 w2 (fun w3 => ofV false 11 (-4) _ 5 rfl (by omega) (by omega) (by omega) w11 w3) (fun w3 => ofV false 3 (-2) _ 1 rfl (by omega) (by omega) (by omega) Go.Proofs.YthilajhciifhaaaGreatDoor.w3 w3) (fun w3 a3 c3 a4 c4 g d3 d4 => is28 (gvI (P1.gr g) (P2.gr g)) d3 d4) ⟨x0, x1, x2, x3, x4, x5⟩ (by decide +kernel))
  intro ex ac wf hR
  cases ex
  case normal =>
    obtain ⟨_, _, _, _, _, _, _, _, _, _, _, _, _, rfl, gf⟩ := hR
    go_wp2
    go_ret
    exact ⟨rfl, G2.trans gf⟩
  all_goals exact hR.elim
end Go.Proofs.YthilajhciifhaaaGreatDoor
namespace Go.Proofs.YthilajhciifhaaaGreatDoor
open Go.RowKit
set_option linter.unusedVariables false

def Bad (o b : Int) : Prop := ¬ (0 ≤ o ∧ o ≤ 14) ∨ ((0 ≤ o ∧ o ≤ 14) ∧ (b < 0 ∨ 2048 < b))
theorem cutE {o st b : Int} (h : Bad o b) (w : World) : Calls Tryz.prog 69 #[.int .i64 o, .int .i64 st, .int .i64 b] w fun r w' => r = .returned (.tuple #[.agg #[.bool false, .slice none 0 0, .int .i64 0, .bool false, .slice none 0 0, .int .i64 0, .bool false, .slice none 0 0, .int .i64 0, .bool false, .slice none 0 0, .int .i64 0], .int .i64 2]) ∧ Gr w w' := by
  rcases h with h | ⟨h, h1⟩
  · exact cutBoxA o st b w h
  · by_cases h2 : b < 0
    · exact cutBoxB o st b w h h2
    · exact cutBoxC o st b w h h2 (h1.resolve_left h2)
theorem cosE {o st b : Int} (h : Bad o b) (w : World) : Calls Tryz.prog 26 #[.int .i64 o, .int .i64 st, .int .i64 b] w fun r w' => r = .returned (.tuple #[.agg #[.bool false, .slice none 0 0, .int .i64 0, .bool false, .slice none 0 0, .int .i64 0], .int .i64 2]) ∧ Gr w w' := angCosE o st b w fun w1 _ => cutE h w1
theorem sinE {o st b : Int} (h : Bad o b) (w : World) : Calls Tryz.prog 27 #[.int .i64 o, .int .i64 st, .int .i64 b] w fun r w' => r = .returned (.tuple #[.agg #[.bool false, .slice none 0 0, .int .i64 0, .bool false, .slice none 0 0, .int .i64 0], .int .i64 2]) ∧ Gr w w' := angSinE o st b w fun w1 _ => cutE h w1
def trT : List Int := [15, 1, 4, -1, 1, 4, 3, 1, -1, 3, 1, 2049, 4611686018427387904, 0, 0, 3, 1, -9223372036854775808]
theorem tr_cells (w : World) (T : TypeId) : ∀ j, j < 18 → (w.alloc (.cells #[.int .i64 15, .int .i64 1, .int .i64 4, .int .i64 (-1), .int .i64 1, .int .i64 4, .int .i64 3, .int .i64 1, .int .i64 (-1), .int .i64 3, .int .i64 1, .int .i64 2049, .int .i64 4611686018427387904, .int .i64 0, .int .i64 0, .int .i64 3, .int .i64 1, .int .i64 (-9223372036854775808)] T)).cell? ⟨w.heap.size, j, none⟩ = some (.int .i64 (trT.getD j 0)) := by
  intro j hj
  unfold World.cell?
  rw [new_at]
  rcases (show j = 0 ∨ j = 1 ∨ j = 2 ∨ j = 3 ∨ j = 4 ∨ j = 5 ∨ j = 6 ∨ j = 7 ∨ j = 8 ∨ j = 9 ∨ j = 10 ∨ j = 11 ∨ j = 12 ∨ j = 13 ∨ j = 14 ∨ j = 15 ∨ j = 16 ∨ j = 17 by omega) with rfl | rfl | rfl | rfl | rfl | rfl | rfl | rfl | rfl | rfl | rfl | rfl | rfl | rfl | rfl | rfl | rfl | rfl <;> rfl
theorem tr_bad (k : Nat) (h : k < 6) : Bad (trT.getD (k * 3) 0) (trT.getD (k * 3 + 2) 0) := by
  rcases (show k = 0 ∨ k = 1 ∨ k = 2 ∨ k = 3 ∨ k = 4 ∨ k = 5 by omega) with rfl | rfl | rfl | rfl | rfl | rfl
  · exact Or.inl (by decide)
  · exact Or.inl (by decide)
  · exact Or.inr ⟨by decide, Or.inl (by decide)⟩
  · exact Or.inr ⟨by decide, Or.inr (by decide)⟩
  · exact Or.inl (by decide)
  · exact Or.inr ⟨by decide, Or.inl (by decide)⟩
theorem zeroG (w : World) : Gv w (.agg #[.bool false, .slice none 0 0, .int .i64 0, .bool false, .slice none 0 0, .int .i64 0]) 0 0 := gvI (zeroDy w) (zeroDy w)
theorem zeroC {x : Int} (h : x = 0) (w : World) : DyV w false none 0 0 0 (x * Un 0) := by rw [h, Int.zero_mul]; exact zeroDy w
set_option maxRecDepth 10000 in
set_option maxHeartbeats 8000000 in
theorem numbersW (w : World) (hT : TabAt 1 Lib.deBruijn64tab w) : Calls Tryz.prog 4 #[] w fun r w' => r = .returned (.bool true) ∧ Gr w w' := by
  have OO : Hid (∀ w1, Calls Tryz.prog 25 #[.bool false, .int .u64 1, .int .i64 0] w1 fun r w' => (∃ ad cap, r = .returned (.agg #[.bool false, .slice ad 1 cap, .int .i64 0]) ∧ DyV w' false ad 1 cap 0 (1 * Un 0)) ∧ Gr w1 w') := fun w1 => ofV false 1 0 _ 0 rfl (by omega) (by omega) (by omega) Go.Proofs.YthilajhciifhaaaGreatDoor.w1 w1
  have CA : Hid (∀ w1, Gr w w1 → Calls Tryz.prog 26 #[.int .i64 3, .int .i64 1, .int .i64 0] w1 fun r w' => (∃ v, r = .returned (.tuple #[v, .int .i64 0]) ∧ Gv w' v (0 * Un 0) (1 * Un 0)) ∧ Gr w1 w') := fun w1 g => cos3_0 w1 (tab_gr hT g)
  have CB : Hid (∀ w1, Gr w w1 → Calls Tryz.prog 27 #[.int .i64 3, .int .i64 (-1), .int .i64 4] w1 fun r w' => (∃ v, r = .returned (.tuple #[v, .int .i64 0]) ∧ Gv w' v ((-12) * Un 4) ((-11) * Un 4)) ∧ Gr w1 w') := fun w1 g => sin3_4 w1 (tab_gr hT g)
  have CC : Hid (∀ w1, Gr w w1 → Calls Tryz.prog 26 #[.int .i64 2, .int .i64 1, .int .i64 9] w1 fun r w' => (∃ v, r = .returned (.tuple #[v, .int .i64 0]) ∧ Gv w' v (cq 1 * Un 0) (cq 1 * Un 0)) ∧ Gr w1 w') := fun w1 g => cos2_9 w1 (tab_gr hT g)
  have CD : Hid (∀ w1, Gr w w1 → Calls Tryz.prog 26 #[.int .i64 1, .int .i64 1, .int .i64 0] w1 fun r w' => (∃ v, r = .returned (.tuple #[v, .int .i64 0]) ∧ Gv w' v (cq 2 * Un 0) (cq 2 * Un 0)) ∧ Gr w1 w') := fun w1 g => cos1_0 w1 (tab_gr hT g)
  have CE : Hid (∀ w1, Gr w w1 → Calls Tryz.prog 26 #[.int .i64 0, .int .i64 5, .int .i64 3] w1 fun r w' => (∃ v, r = .returned (.tuple #[v, .int .i64 0]) ∧ Gv w' v (cq 0 * Un 0) (cq 0 * Un 0)) ∧ Gr w1 w') := fun w1 g => cos0_5 w1 (tab_gr hT g)
  have CF : Hid (∀ w1, Gr w w1 → Calls Tryz.prog 27 #[.int .i64 0, .int .i64 5, .int .i64 3] w1 fun r w' => (∃ v, r = .returned (.tuple #[v, .int .i64 0]) ∧ Gv w' v (cq (0 - 1) * Un 0) (cq (0 - 1) * Un 0)) ∧ Gr w1 w') := fun w1 g => sin0_5 w1 (tab_gr hT g)
  have HT := hide hT
  clear hT
  go_enter Tryz.func4, Tryz.ntmps4
  go_wp2_with (first
    | (go_at_call 25; (with_reducible refine (OO.out _).mono ?_); rintro r w0 ⟨⟨aO, cO, rfl, dO⟩, G0⟩)
    | (go_at_call 26; (with_reducible refine (CA.out _ ((G0.alloc _).alloc _)).mono ?_); rintro r w1 ⟨⟨_, rfl, s1, a1, n1, c1, e1, s2, a2, n2, c2, e2, rfl, p1, p2⟩, g1⟩; have G1 := ((G0.alloc _).alloc _).trans g1)
    | (go_at_call 27; (with_reducible refine (CB.out _ (G1.alloc _)).mono ?_); rintro r w2 ⟨⟨_, rfl, s3, a3, n3, c3, e3, s4, a4, n4, c4, e4, rfl, p3, p4⟩, g2⟩; have G2 := (G1.alloc _).trans g2)
    | (go_at_call 26; (with_reducible refine (CC.out _ (G2.alloc _)).mono ?_); rintro r w3 ⟨⟨_, rfl, s5, a5, n5, c5, e5, s6, a6, n6, c6, e6, rfl, p5, p6⟩, g3⟩; have G3 := (G2.alloc _).trans g3)
    | (go_at_call 26; (with_reducible refine (CD.out _ (G3.alloc _)).mono ?_); rintro r w4 ⟨⟨_, rfl, s7, a7, n7, c7, e7, s8, a8, n8, c8, e8, rfl, p7, p8⟩, g4⟩; have G4 := (G3.alloc _).trans g4)
    | (go_at_call 26; (with_reducible refine (CE.out _ (G4.alloc _)).mono ?_); rintro r w5 ⟨⟨_, rfl, s9, a9, n9, c9, e9, s10, a10, n10, c10, e10, rfl, p9, p10⟩, g5⟩; have G5 := (G4.alloc _).trans g5)
    | (go_at_call 27; (with_reducible refine (CF.out _ (G5.alloc _)).mono ?_); rintro r w6 ⟨⟨_, rfl, s11, a11, n11, c11, e11, s12, a12, n12, c12, e12, rfl, p11, p12⟩, g6⟩; have G6 := (G5.alloc _).trans g6))
  have k6 : Gr w6 (w6.alloc (.cells #[.bool s11, .slice a11 n11 c11, .int .i64 e11, .bool s12, .slice a12 n12 c12, .int .i64 e12] 51)) := (Gr.refl w6).alloc _
  have B13 := new_at w6 (.cells #[.bool s11, .slice a11 n11 c11, .int .i64 e11, .bool s12, .slice a12 n12 c12, .int .i64 e12] 51)
  have GW := G6.trans k6
  generalize w6.alloc (.cells #[.bool s11, .slice a11 n11 c11, .int .i64 e11, .bool s12, .slice a12 n12 c12, .int .i64 e12] 51) = wq at *
  have m5 := g6.trans k6
  have k5 : Gr w5 wq := ((Gr.refl w5).alloc _).trans m5
  have B11 := m5.keepH (new_at w5 (.cells #[.bool s9, .slice a9 n9 c9, .int .i64 e9, .bool s10, .slice a10 n10 c10, .int .i64 e10] 51))
  have m4 := g5.trans k5
  have k4 : Gr w4 wq := ((Gr.refl w4).alloc _).trans m4
  have B9 := m4.keepH (new_at w4 (.cells #[.bool s7, .slice a7 n7 c7, .int .i64 e7, .bool s8, .slice a8 n8 c8, .int .i64 e8] 51))
  have m3 := g4.trans k4
  have k3 : Gr w3 wq := ((Gr.refl w3).alloc _).trans m3
  have B7 := m3.keepH (new_at w3 (.cells #[.bool s5, .slice a5 n5 c5, .int .i64 e5, .bool s6, .slice a6 n6 c6, .int .i64 e6] 51))
  have m2 := g3.trans k3
  have k2 : Gr w2 wq := ((Gr.refl w2).alloc _).trans m2
  have B5 := m2.keepH (new_at w2 (.cells #[.bool s3, .slice a3 n3 c3, .int .i64 e3, .bool s4, .slice a4 n4 c4, .int .i64 e4] 51))
  have m1 := g2.trans k2
  have k1 : Gr w1 wq := ((Gr.refl w1).alloc _).trans m1
  have B3 := m1.keepH (new_at w1 (.cells #[.bool s1, .slice a1 n1 c1, .int .i64 e1, .bool s2, .slice a2 n2 c2, .int .i64 e2] 51))
  have m0 := g1.trans k1
  have k0 : Gr w0 wq := (((Gr.refl w0).alloc _).alloc _).trans m0
  have B1 := m0.keepH (blk2 w0 (.cells #[.bool false, .slice aO 1 cO, .int .i64 0] 24) (.cells #[.bool false, .slice none 0 0, .int .i64 0] 24)).1
  have B2 := m0.keepH (blk2 w0 (.cells #[.bool false, .slice aO 1 cO, .int .i64 0] 24) (.cells #[.bool false, .slice none 0 0, .int .i64 0] 24)).2
  have P1 := p1.gr k1
  have P2 := p2.gr k1
  have P3 := p3.gr k2
  have P4 := p4.gr k2
  have P5 := p5.gr k3
  have P6 := p6.gr k3
  have P7 := p7.gr k4
  have P8 := p8.gr k4
  have P9 := p9.gr k5
  have P10 := p10.gr k5
  have P11 := p11.gr k6
  have P12 := p12.gr k6
  have PO := dO.gr k0
  clear p1 p2 p3 p4 p5 p6 p7 p8 p9 p10 p11 p12 dO m0 m1 m2 m3 m4 m5
  obtain ⟨y1_0, y1_1, y1_2⟩ := cells_ofT B1
  obtain ⟨y2_0, y2_1, y2_2⟩ := cells_ofT B2
  obtain ⟨y3_0, y3_1, y3_2, y3_3, y3_4, y3_5, -⟩ := out6 B3
  obtain ⟨y5_0, y5_1, y5_2, y5_3, y5_4, y5_5, -⟩ := out6 B5
  obtain ⟨y7_0, y7_1, y7_2, y7_3, y7_4, y7_5, -⟩ := out6 B7
  obtain ⟨y9_0, y9_1, y9_2, y9_3, y9_4, y9_5, -⟩ := out6 B9
  obtain ⟨y11_0, y11_1, y11_2, y11_3, y11_4, y11_5, -⟩ := out6 B11
  obtain ⟨y13_0, y13_1, y13_2, y13_3, y13_4, y13_5, -⟩ := out6 B13
  refine Code.wp_mono ?_ (regW4 _ _ _ _ _ _ _ _ _ _ _ _ _ _ _ _ _ _ _ _ _ _ _ _ _ _ _ _ _ _ _ _ _ _ _ _ _ _ _ _ _ _ _ _ _ _ _ _ _ _ _ _ _ _ _ _ _ _ _ _ _ _ _ _ _ _ _ _ _ _ _ _ _ _ _ _ _ _ _ _ _ _ _ _ _ _ _ _ _ _ _ _ _ _ _ _ _ _ _ _ _ _ _ _ _ _ _ _ _ _ _ _ _ _ _ _ _ _ _ _ _ _ _ _ _ _ _ _ _ _ _ _ _ _ _ _ _ _ _ _ _ _ _ _ _ _ _ _ _ _ _ _ _ _ _ _ _ _ _ _ _ _ _ _ _ _ _ _ _ _ _ _ _ _ _ _ _ _ _ _ _ _ _ _ _ _ _ _ _ _ _ _ _ _ _ _ _ _ _ _ _ _ _ _ _ _ _ w0.heap.size (w0.heap.size + 1) w1.heap.size w2.heap.size w3.heap.size w4.heap.size w5.heap.size w6.heap.size _ _ _ _ _ _ _ _ _ _ _ _ _ _ _ _ _ _ _ _ _ _ _ _ _ _ _ _ _ _ _ _ _ _ _ _ _ _ _ _ _ _ ((-12) * Un 4) ((-11) * Un 4) (cq 2 * Un 0) 0 wq
    (fun w' g => is28 (gvI (P1.gr g) (P2.gr g)) (zeroC (by decide) w') (PO.gr g)) (fun w' => ofV true 3 (-2) _ 1 rfl (by omega) (by omega) (by omega) w3n w') (fun w' => ofV true 11 (-4) _ 5 rfl (by omega) (by omega) (by omega) w11n w') (fun w' a3 c3 a4 c4 g d3 d4 => is28 (gvI (P3.gr g) (P4.gr g)) d3 d4)
    (fun w' g => is28 (gvI (P5.gr g) (P6.gr g)) (zeroC (by decide) w') (zeroC (by decide) w')) (fun w' => ofV true 1 0 _ 0 rfl (by omega) (by omega) (by omega) w1n w') (fun w' a3 c3 a4 c4 g d3 d4 => is28 (gvI (P7.gr g) (P8.gr g)) d3 d4) (fun w' g => is28 (gvI (P9.gr g) (P10.gr g)) (PO.gr g) (PO.gr g)) (fun w' g => is28 (gvI (P11.gr g) (P12.gr g)) (zeroC (by decide) w') (zeroC (by decide) w')) ⟨y1_0, y1_1, y1_2, y2_0, y2_1, y2_2, y3_0, y3_1, y3_2, y3_3, y3_4, y3_5, y5_0, y5_1, y5_2, y5_3, y5_4, y5_5, y7_0, y7_1, y7_2, y7_3, y7_4, y7_5, y9_0, y9_1, y9_2, y9_3, y9_4, y9_5, y11_0, y11_1, y11_2, y11_3, y11_4, y11_5, y13_0, y13_1, y13_2, y13_3, y13_4, y13_5⟩)
  intro ex ac wf hR
  cases ex
  case normal =>
    obtain ⟨_, _, _, _, _, _, _, _, _, _, _, _, _, _, _, _, _, _, _, _, _, _, _, _, _, _, _, _, _, _, _, _, _, _, _, _, _, _, _, _, rfl, gf⟩ := hR
    have GF := GW.trans gf
    clear y1_0 y1_1 y1_2 y2_0 y2_1 y2_2 y3_0 y3_1 y3_2 y3_3 y3_4 y3_5 y5_0 y5_1 y5_2 y5_3 y5_4 y5_5 y7_0 y7_1 y7_2 y7_3 y7_4 y7_5 y9_0 y9_1 y9_2 y9_3 y9_4 y9_5 y11_0 y11_1 y11_2 y11_3 y11_4 y11_5 y13_0 y13_1 y13_2 y13_3 y13_4 y13_5 B1 B2 B3 B5 B7 B9 B11 B13 P1 P2 P3 P4 P5 P6 P7 P8 P9 P10 P11 P12 PO k0 k1 k2 k3 k4 k5 k6 g1 g2 g3 g4 g5 g6 G0 G1 G2 G3 G4 G5 G6 GW gf CA CB CC CD CE CF OO
    go_wp2
    have SC := hide (tr_cells wf 55)
    have GZ := GF.alloc (.cells #[.int .i64 15, .int .i64 1, .int .i64 4, .int .i64 (-1), .int .i64 1, .int .i64 4, .int .i64 3, .int .i64 1, .int .i64 (-1), .int .i64 3, .int .i64 1, .int .i64 2049, .int .i64 4611686018427387904, .int .i64 0, .int .i64 0, .int .i64 3, .int .i64 1, .int .i64 (-9223372036854775808)] 55)
    generalize wf.alloc (.cells #[.int .i64 15, .int .i64 1, .int .i64 4, .int .i64 (-1), .int .i64 1, .int .i64 4, .int .i64 3, .int .i64 1, .int .i64 (-1), .int .i64 3, .int .i64 1, .int .i64 2049, .int .i64 4611686018427387904, .int .i64 0, .int .i64 0, .int .i64 3, .int .i64 1, .int .i64 (-9223372036854775808)] 55) = w9 at *
    generalize wf.heap.size = b9 at *
    go_loopw [108] (fun i wr => ∃ k : Nat, k ≤ 6 ∧ i = .int .i64 k ∧ Hid (Gr w9 wr)) (fun i _ => 6 - (intOf i).toNat)
    case atStart => exact ⟨0, by omega, rfl, Gr.refl _⟩
    case round =>
      obtain ⟨k, hk, rfl, gk⟩ := hrel
      by_cases h6 : k < 6
      · have y0 := gk.out.keep (SC.out (k * 3) (by omega))
        have y1 := gk.out.keep (SC.out (k * 3 + 1) (by omega))
        have y2 := gk.out.keep (SC.out (k * 3 + 2) (by omega))
        have hb := tr_bad k h6
        generalize trT.getD (k * 3) 0 = o at y0 hb
        generalize trT.getD (k * 3 + 1) 0 = st at y1
        generalize trT.getD (k * 3 + 2) 0 = b at y2 hb
        have CS : Hid (∀ w, Calls Tryz.prog 26 #[.int .i64 o, .int .i64 st, .int .i64 b] w fun r w' => r = .returned (.tuple #[.agg #[.bool false, .slice none 0 0, .int .i64 0, .bool false, .slice none 0 0, .int .i64 0], .int .i64 2]) ∧ Gr w w') := fun w => cosE hb w
        have SN : Hid (∀ w, Calls Tryz.prog 27 #[.int .i64 o, .int .i64 st, .int .i64 b] w fun r w' => r = .returned (.tuple #[.agg #[.bool false, .slice none 0 0, .int .i64 0, .bool false, .slice none 0 0, .int .i64 0], .int .i64 2]) ∧ Gr w w') := fun w => sinE hb w
        have SG : Hid (∀ w, Calls Tryz.prog 29 #[.agg #[.bool false, .slice none 0 0, .int .i64 0, .bool false, .slice none 0 0, .int .i64 0], .agg #[.bool false, .slice none 0 0, .int .i64 0, .bool false, .slice none 0 0, .int .i64 0]] w fun r w' => r = .returned (.bool true) ∧ Gr w w') := fun w => sameGap (zeroG w) (zeroG w)
        have tok : True := trivial
        clear hb
        go_wp2_with (first
          | (go_at_call 26; (with_reducible refine (CS.out _).mono ?_); rintro r wc ⟨rfl, gc⟩; have X0 := gc.keepH (new_at wr (.cells #[.int .i64 o, .int .i64 st, .int .i64 b] 55)); have X1 := ((Gr.refl wc).alloc (.cells #[.bool false, .slice none 0 0, .int .i64 0, .bool false, .slice none 0 0, .int .i64 0] 51)).keepH X0; obtain ⟨x0, x1, x2⟩ := cells_ofT X1)
          | (go_at_call 27; (with_reducible refine (SN.out _).mono ?_); rintro r ws ⟨rfl, gs⟩; have M0 := gs.keepH (new_at wc (.cells #[.bool false, .slice none 0 0, .int .i64 0, .bool false, .slice none 0 0, .int .i64 0] 51)); have M2 := ((Gr.refl ws).alloc (.cells #[.bool false, .slice none 0 0, .int .i64 0, .bool false, .slice none 0 0, .int .i64 0] 51)).keepH M0; obtain ⟨z0, z1, z2, z3, z4, z5, -⟩ := out6 M2)
          | (go_at_call 29; have _t := tok; (with_reducible refine (SG.out _).mono ?_); rintro r wz ⟨rfl, gz⟩; clear tok; have M1 := gz.keepH (new_at ws (.cells #[.bool false, .slice none 0 0, .int .i64 0, .bool false, .slice none 0 0, .int .i64 0] 51)); obtain ⟨v0, v1, v2, v3, v4, v5, -⟩ := out6 M1)
          | (go_at_call 29; (with_reducible refine (SG.out _).mono ?_); rintro r wy ⟨rfl, gy⟩))
        go_roundw
        case rel => exact ⟨k + 1, by omega, by go_num, (((((gk.out.alloc _).trans gc).alloc _).trans gs).alloc _).trans (gz.trans gy)⟩
        case measure => simp only [intOf]; omega
      · have GR := GZ.trans gk.out
        have NA : Hid (∀ w1, Calls Tryz.prog 30 #[.int .i64 15, .int .i64 0] w1 fun r w' => r = .returned (.tuple #[.complex .f64 0 0, .int .i64 2]) ∧ Gr w1 w') := fun w1 => angNearE 15 0 w1 (by omega)
        have NB : Hid (∀ w1, Gr w w1 → Calls Tryz.prog 30 #[.int .i64 14, .int .i64 (-9223372036854775808)] w1 fun r w' => r = .returned (.tuple #[.complex .f64 4607182418800017408 0, .int .i64 0]) ∧ Gr w1 w') := fun w1 g => near14 w1 (tab_gr HT.out g)
        have NC : Hid (∀ w1, Gr w w1 → Calls Tryz.prog 30 #[.int .i64 2, .int .i64 1] w1 fun r w' => r = .returned (.tuple #[.complex .f64 0 4607182418800017408, .int .i64 0]) ∧ Gr w1 w') := fun w1 g => near21 w1 (tab_gr HT.out g)
        have ND : Hid (∀ w1, Gr w w1 → Calls Tryz.prog 30 #[.int .i64 2, .int .i64 2] w1 fun r w' => r = .returned (.tuple #[.complex .f64 13830554455654793216 0, .int .i64 0]) ∧ Gr w1 w') := fun w1 g => near22 w1 (tab_gr HT.out g)
        have SI : Hid (∀ w1, Gr w w1 → Calls Tryz.prog 27 #[.int .i64 14, .int .i64 1, .int .i64 2048] w1 fun r w' => (∃ v, r = .returned (.tuple #[v, .int .i64 0]) ∧ Gv w' v (KS * Un 2048) ((KS + 1) * Un 2048)) ∧ Gr w1 w') := fun w1 g => sin14 w1 (tab_gr HT.out g)
        have GA : Hid (∀ w1, Calls Tryz.prog 32 #[.int .i64 14, .int .i64 1, .int .i64 2048, .bool true] w1 fun r w' => (∃ v, r = .returned (.tuple #[v, .int .i64 0]) ∧ Gv w' v (KS * Un 2048) ((KS + 1) * Un 2048)) ∧ Gr w1 w') := fun w1 => gap14 w1
        have AW : Hid (∀ w1, Gr w w1 → Calls Tryz.prog 33 #[] w1 fun r w' => r = .returned (.bool true) ∧ Gr w1 w') := fun w1 g => awake33 w1 (tab_gr HT.out g)
        have hz : (FloatKind.f64.format.order 0 0 == some Ordering.eq) = true := by decide +kernel
        clear SC HT GF
        go_wp2_with (first
          | (go_at_call 30; (with_reducible refine (NA.out _).mono ?_); rintro r z1 ⟨rfl, h1⟩; have H1 := GR.trans h1)
          | (go_at_call 30; (with_reducible refine (NB.out _ H1).mono ?_); rintro r z2 ⟨rfl, h2⟩; have H2 := H1.trans h2)
          | (go_at_call 30; (with_reducible refine (NC.out _ H2).mono ?_); rintro r z3 ⟨rfl, h3⟩; have H3 := H2.trans h3)
          | (go_at_call 30; (with_reducible refine (ND.out _ H3).mono ?_); rintro r z4 ⟨rfl, h4⟩; have H4 := H3.trans h4)
          | (go_at_call 31; (with_reducible refine (sameBoth31 _ _ _).mono ?_); rintro r z ⟨rfl, hzz⟩; have hz' := hzz.symm; clear hzz; subst hz')
          | (go_at_call 27; (with_reducible refine (SI.out _ H4).mono ?_); rintro r z5 ⟨⟨_, rfl, d1, b1, l1, f1, i1, d2, b2, l2, f2, i2, rfl, q1, q2⟩, h5⟩; have H5 := H4.trans h5)
          | (go_at_call 32; (with_reducible refine (GA.out _).mono ?_); rintro r z6 ⟨⟨_, rfl, d3, b3, l3, f3, i3, d4, b4, l4, f4, i4, rfl, q3, q4⟩, h6'⟩; have H6 := (H5.alloc _).trans h6'; have Y0 := h6'.keepH (new_at z5 (.cells #[.bool d1, .slice b1 l1 f1, .int .i64 i1, .bool d2, .slice b2 l2 f2, .int .i64 i2] 51)); have Y1 := ((Gr.refl z6).alloc (.cells #[.bool d3, .slice b3 l3 f3, .int .i64 i3, .bool d4, .slice b4 l4 f4, .int .i64 i4] 51)).keepH Y0; have r1 := (Gr.refl z5).alloc (.cells #[.bool d1, .slice b1 l1 f1, .int .i64 i1, .bool d2, .slice b2 l2 f2, .int .i64 i2] 51); have r2 := (r1.trans h6').alloc (.cells #[.bool d3, .slice b3 l3 f3, .int .i64 i3, .bool d4, .slice b4 l4 f4, .int .i64 i4] 51); have r3 := (Gr.refl z6).alloc (.cells #[.bool d3, .slice b3 l3 f3, .int .i64 i3, .bool d4, .slice b4 l4 f4, .int .i64 i4] 51); have Q1 := q1.gr r2; have Q2 := q2.gr r2; have Q3 := q3.gr r3; have Q4 := q4.gr r3; obtain ⟨x0, x1, x2, x3, x4, x5, -⟩ := out6 Y1)
          | (go_at_call 29; (with_reducible refine (sameGap (gvI Q1 Q2) (gvI Q3 Q4)).mono ?_); rintro r z7 ⟨rfl, h7⟩; have H7 := (H6.alloc _).trans h7)
          | (go_at_call 33; (with_reducible refine (AW.out _ H7).mono ?_); rintro r z8 ⟨rfl, h8⟩; have H8 := H7.trans h8))
        go_ret
        exact ⟨rfl, H8⟩
  all_goals exact hR.elim
end Go.Proofs.YthilajhciifhaaaGreatDoor
namespace Go.Proofs.YthilajhciifhaaaGreatDoor
open Go.ChangeShapes Go.WideShapes Go.ChangeAt Go.RowKit
set_option linter.unusedVariables false

/-! THE FRAME OF THE STATEMENTS ON DYADS -/
theorem own : ownKnob Tryz.prog.godebug = none := by kernel_rfl
theorem cells5 : Tryz.prog.cellsOf 5 = 1 := by kernel_rfl
theorem gTab : Tryz.prog.globalNamed "math/bits.deBruijn64tab" = some 1 := by kernel_rfl
theorem tTab : (Tryz.prog.globals[1]?).map (·.type) = some 207 := by kernel_rfl
theorem laid_list {H : Type} : (Rows.laid_math_bits_deBruijn64tab : DataW H) = .agg (Lib.deBruijn64tab.map fun (n : Nat) => .lit (.int .u8 (n : Int))) := rfl
theorem tab_len : Lib.deBruijn64tab.length = 64 := rfl
set_option maxRecDepth 100000 in
/-- what the listed variable gives: the table's cells -/
theorem tab_of_laid {W : World} (h : laidMetH Tryz.prog [("math/bits.deBruijn64tab", Rows.laid_math_bits_deBruijn64tab)] W) : TabAt 1 Lib.deBruijn64tab W := by
  rw [MakeChecks.laidMetH_plain _ _ _ (by kernel_rfl)] at h
  obtain ⟨ps, ⟨g0, t0, cs0, f0, p0, q0, hg0, ht0, hv0, hd0, _, _⟩, _, _⟩ := h
  obtain rfl := Option.some.inj (gTab.symm.trans hg0)
  obtain rfl := Option.some.inj (tTab.symm.trans ht0)
  obtain ⟨xs, m1, rfl, hx1, hlen, hn3, hel⟩ := DataW.trod_array Tryz.underlying207 hd0
  rw [laid_list] at hx1
  have hx2 : Lib.deBruijn64tab.map (fun (n : Nat) => (.lit (.int .u8 (n : Int)) : DataW Unit)) = xs.map (·.1) := by
    injection hx1 with h1 h2
    injection h1
  intro j hj
  rw [tab_len] at hj
  have h0 := hel j hj
  rw [cells5, Nat.mul_one] at h0
  have hxj : xs[j]? = some xs[j] := List.getElem?_eq_getElem (by omega)
  rw [hxj] at h0
  obtain ⟨n, e1, e2, _⟩ := DataW.trod_int Tryz.underlying5 h0
  have e3 : (xs.map (·.1))[j]? = some (.lit (.int .u8 n)) := by
    rw [List.getElem?_map, hxj, e2]; rfl
  rw [← hx2, List.getElem?_map, List.getElem?_eq_getElem (by rw [tab_len]; exact hj)] at e3
  simp only [Option.map_some] at e3
  injection e3 with e3
  injection e3 with e3
  injection e3 with _ e3
  rw [World.var?_cell hg0 hv0 j, List.getD_eq_getElem?_getD, List.getElem?_eq_getElem (by rw [tab_len]; exact hj)]
  simp only [Option.getD_some]
  have e5 : cs0.toList[j]? = some (.int .u8 n) := by
    have : (cs0.toList.drop j).take 1 = [.int .u8 n] := e1
    have h6 : ((cs0.toList.drop j).take 1)[0]? = some (.int .u8 n) := by rw [this]; rfl
    rw [List.getElem?_take_of_lt (by omega), List.getElem?_drop] at h6
    exact h6
  rw [Array.getElem?_toList] at e5
  rw [e5]
  exact congrArg (fun z => some (Value.int .u8 z)) e3.symm
/-- the door's own heap meets the condition -/
theorem door_met (os : Os) (args : Array Value) : laidMetH Tryz.prog [("math/bits.deBruijn64tab", Rows.laid_math_bits_deBruijn64tab)] ((World.doorLaid Tryz.prog 400 os).forCall (fun _ _ => 0) ⟨#[], args, []⟩).memory :=
  laidMetH_of_parts3 (fuel := 8) (laidMet_of_run' 8 (by kernel_rfl) (by kernel_rfl)) (by kernel_rfl) (by kernel_rfl)
end Go.Proofs.YthilajhciifhaaaGreatDoor
