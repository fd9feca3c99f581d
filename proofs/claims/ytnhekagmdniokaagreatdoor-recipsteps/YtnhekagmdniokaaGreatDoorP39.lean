import Derived.Test.YtnhekagmdniokaaGreatDoorP37
import Derived.Test.YtnhekagmdniokaaGreatDoorP38
namespace Go.Proofs.YtnhekagmdniokaaGreatDoor
open Go.RowKit
set_option linter.unusedVariables false
set_option linter.unusedSimpArgs false

theorem bx3Z {w : World} {B : Nat} {v0 v1 v2 : Value} {T : TypeId} (h : w.heap[B]? = some (.cells #[v0, v1, v2] T)) : w.cell? ⟨B, 0, none⟩ = some v0 ∧ w.cell? ⟨B, 1, none⟩ = some v1 ∧ w.cell? ⟨B, 2, none⟩ = some v2 := ⟨by simp [World.cell?, h], by simp [World.cell?, h], by simp [World.cell?, h]⟩
theorem powK {k K : Nat} (h : 64 * k = K) : 18446744073709551616 ^ k = 2 ^ K := by rw [pow64, h]
theorem stp_bd {D : Nat} {R : Int} {b K : Nat} (hD : 0 < D) (h1 : D < 2 ^ K) (h2 : R.natAbs < 2 ^ K) : (stp (D : Int) R ((2 ^ b : Nat) : Int)).natAbs < 2 ^ (3 * K + 2) := by
  rw [stp_nat (D : Int) R b (by omega), Int.natAbs_natCast]
  obtain ⟨y, hy⟩ : ∃ y, R.natAbs = y := ⟨_, rfl⟩
  rw [hy] at h2 ⊢
  have hP := Nat.two_pow_pos b
  have hc : (D * (y * y) + (2 ^ b - 1)) / 2 ^ b ≤ D * (y * y) := by
    generalize D * (y * y) = x
    generalize 2 ^ b = P at *
    rcases Nat.eq_zero_or_pos x with h | h
    · rw [h, Nat.div_eq_of_lt (by omega)]; omega
    · refine Nat.div_le_of_le_mul ?_
      have : x + P ≤ x * P + 1 := by
        obtain ⟨x', rfl⟩ : ∃ x', x = x' + 1 := ⟨x - 1, by omega⟩
        obtain ⟨P', rfl⟩ : ∃ P', P = P' + 1 := ⟨P - 1, by omega⟩
        rw [Nat.add_mul, Nat.mul_add]
        omega
      rw [Nat.mul_comm P x]
      omega
  have e3 : 2 ^ (3 * K) = 2 ^ K * (2 ^ K * 2 ^ K) := by rw [← Nat.pow_add, ← Nat.pow_add]; congr 1; omega
  have e4 : 2 ^ (3 * K + 2) = 2 ^ (3 * K) * 4 := by rw [Nat.pow_add]
  have h3 : D * (y * y) ≤ 2 ^ (3 * K) := by
    rw [e3]
    exact Nat.mul_le_mul (Nat.le_of_lt h1) (Nat.mul_le_mul (Nat.le_of_lt h2) (Nat.le_of_lt h2))
  have h4 : y < 2 ^ (3 * K) := Nat.lt_of_lt_of_le h2 (Nat.pow_le_pow_right (by omega) (by omega))
  rw [e4]
  generalize (D * (y * y) + (2 ^ b - 1)) / 2 ^ b = c at *
  generalize 2 ^ (3 * K) = T at *
  omega
theorem sg_nn {x : Int} (h : 0 ≤ x) : ¬ sg x < 0 := by unfold sg; split <;> omega
theorem sg_lt {x : Int} (h : x < 0) : ¬ 0 ≤ sg x := by unfold sg; split <;> omega
theorem sg_np {x : Int} (h : x ≤ 0) : sg x ≤ 0 := by unfold sg; split <;> (try split) <;> omega
set_option maxRecDepth 16000 in
set_option maxHeartbeats 16000000 in
theorem stepsV (s t : Bool) (ad1 ad2 : Option Addr) (n1 n2 c1 c2 : Nat) (xs ys : List Nat) (B : Int) (w : World) (rx : Row w ad1 n1 c1 xs) (ry : Row w ad2 n2 c2 ys) (hx : ∀ x ∈ xs, x < 18446744073709551616) (hy : ∀ x ∈ ys, x < 18446744073709551616) (hB1 : -9223372036854775808 ≤ B) (hB2 : B ≤ 9223372036854775807) (hT : TabAt 0 Lib.deBruijn64tab w) :
    Calls Tryz.prog 4 #[.agg #[.bool s, .slice ad1 n1 c1], .agg #[.bool t, .slice ad2 n2 c2], .int .i64 B] w fun r w' => r = .returned (.bool true) ∧ Gr w w' := by
  obtain ⟨b, hb⟩ : ∃ b : Nat, B % 4001 = (b : Int) := ⟨(B % 4001).toNat, by omega⟩
  have hb4 : b ≤ 4000 := by omega
  have PK : Hid (∀ w1, Calls Tryz.prog 18 #[.int .i64 B, .int .i64 4001] w1 fun r w' => r = .returned (.int .i64 (b : Int)) ∧ w' = w1) := fun w1 => by rw [← hb]; exact pickV B 4001 (by omega) (by omega) w1
  obtain ⟨K, hK⟩ : ∃ K : Nat, K = 1280 := ⟨_, rfl⟩
  have hWK : 18446744073709551616 ^ 20 = 2 ^ K := powK (by omega)
  have HT := hide hT
  have B2 := blk2 w (.cells #[.bool s, .slice ad1 n1 c1] 36) (.cells #[.bool t, .slice ad2 n2 c2] 36)
  have GA : Gr w ((w.alloc (.cells #[.bool s, .slice ad1 n1 c1] 36)).alloc (.cells #[.bool t, .slice ad2 n2 c2] 36)) := ((Gr.refl w).alloc _).alloc _
  have X1 : Hid (∀ w1, Gr ((w.alloc (.cells #[.bool s, .slice ad1 n1 c1] 36)).alloc (.cells #[.bool t, .slice ad2 n2 c2] 36)) w1 → _) := fun w1 g => aboveV s ad1 n1 c1 20 xs w1 (rx.gr (GA.trans g)) hx (by omega) (by omega)
  have X2 : Hid (∀ w1, Gr ((w.alloc (.cells #[.bool s, .slice ad1 n1 c1] 36)).alloc (.cells #[.bool t, .slice ad2 n2 c2] 36)) w1 → _) := fun w1 g => wholeInt t ad2 n2 c2 20 ys w1 (ry.gr (GA.trans g)) hy (by omega)
  clear rx ry hx hy hT hb
  go_enter Tryz.func4, Tryz.ntmps4
  go_wp2
  generalize ((w.alloc (.cells #[.bool s, .slice ad1 n1 c1] 36)).alloc (.cells #[.bool t, .slice ad2 n2 c2] 36)) = w1 at *
  have HR : Hid (∀ t0 t1 t2 t5 t6 t7 t8 t9 t10 t11 t12 t13 t14 t15 t16 t17 t18 t19 t20 t21 t22 t23 t24 t25 t26 t27 t28 t29 t30 t31 t32 t33 t34 t35 t36 t37 t38 t39 t40 t41 t42 t43 t44 t45 t46 t47 t48 t49 t50 t51 t52 t53 t54 t55 t56 t57 t58 t59 t60 t61 t62 t63 t64 t65 t66 t67 t68 t69 t70 t71 t72 t73 t74 t75 t76 t77 t78 t79 t80 t81 t82 t83 t84 t85 t86 t87 : Value, _) := fun t0 t1 t2 t5 t6 t7 t8 t9 t10 t11 t12 t13 t14 t15 t16 t17 t18 t19 t20 t21 t22 t23 t24 t25 t26 t27 t28 t29 t30 t31 t32 t33 t34 t35 t36 t37 t38 t39 t40 t41 t42 t43 t44 t45 t46 t47 t48 t49 t50 t51 t52 t53 t54 t55 t56 t57 t58 t59 t60 t61 t62 t63 t64 t65 t66 t67 t68 t69 t70 t71 t72 t73 t74 t75 t76 t77 t78 t79 t80 t81 t82 t83 t84 t85 t86 t87 => regSt1 t0 t1 t2 t5 t6 t7 t8 t9 t10 t11 t12 t13 t14 t15 t16 t17 t18 t19 t20 t21 t22 t23 t24 t25 t26 t27 t28 t29 t30 t31 t32 t33 t34 t35 t36 t37 t38 t39 t40 t41 t42 t43 t44 t45 t46 t47 t48 t49 t50 t51 t52 t53 t54 t55 t56 t57 t58 t59 t60 t61 t62 t63 t64 t65 t66 t67 t68 t69 t70 t71 t72 t73 t74 t75 t76 t77 t78 t79 t80 t81 t82 t83 t84 t85 t86 t87 w.heap.size n1 c1 (w.heap.size + 1) n2 c2 s t ad1 ad2 w1 X1 X2 (lt_of_get2 B2.1) (lt_of_get2 B2.2) ⟨(bx2 B2.1).1, (bx2 B2.1).2, (bx2 B2.2).1, (bx2 B2.2).2⟩
  refine Code.wp_mono ?_ (HR.out _ _ _ _ _ _ _ _ _ _ _ _ _ _ _ _ _ _ _ _ _ _ _ _ _ _ _ _ _ _ _ _ _ _ _ _ _ _ _ _ _ _ _ _ _ _ _ _ _ _ _ _ _ _ _ _ _ _ _ _ _ _ _ _ _ _ _ _ _ _ _ _ _ _ _ _ _ _ _ _ _ _ _ _ _ _)
  intro e a1' w2 hR
  cases e <;> first | (exact False.elim hR) | skip
  obtain ⟨u19, u20, u21, u22, p7, p8, a7, n7, c7, D, s8, a8, n8, c8, R, rfl, H7, H8, hD, W7, F7, hDm, W8, F8, hRm, g2⟩ := hR
  clear HR X1 X2 F7 F8 B2
  obtain ⟨s7, hs7⟩ : ∃ s7, false = s7 := ⟨_, rfl⟩
  rw [hs7] at H7 W7
  rw [hWK] at hDm hRm
  obtain ⟨Z, hZ⟩ : ∃ Z, stp (D : Int) R ((2 ^ b : Nat) : Int) = Z := ⟨_, rfl⟩
  have hSB := stp_bd (b := b) hD hDm hRm
  rw [hZ] at hSB
  obtain ⟨J, hJ⟩ : ∃ J, 3 * K + 2 = J := ⟨_, rfl⟩
  rw [hJ] at hSB
  have hPi : (0 : Int) < ((2 ^ b : Nat) : Int) := Int.natCast_pos.2 (Nat.two_pow_pos b)
  have hDi : (0 : Int) < (D : Int) := by omega
  have TR1 := (stp_left (r := R) hDi hPi).1
  have TR2 := (stp_left (r := R) hDi hPi).2
  have TR3 := stp_le_ediv (r := R) hDi hPi
  rw [hZ] at TR1 TR2 TR3
  obtain ⟨O, hO⟩ : ∃ O, 2 ^ b / D = O := ⟨_, rfl⟩
  have hOP : O < 2 ^ (b + 1) := by
    rw [← hO]
    exact Nat.lt_of_le_of_lt (Nat.div_le_self _ _) (Nat.pow_lt_pow_right (by omega) (by omega))
  have e3 : ((2 ^ b : Nat) : Int) / (D : Int) = (O : Int) := by rw [← hO]; exact_mod_cast rfl
  rw [e3] at TR3
  have STP : Hid (∀ w1, Gr w w1 → ∀ (s : Bool) (a : Option Addr) (n c : Nat) (s' : Bool) (a' : Option Addr) (n' c' : Nat), Wh w1 s a n c (D : Int) → Wh w1 s' a' n' c' R → Calls Tryz.prog 12 #[.agg #[.bool s, .slice a n c], .agg #[.bool s', .slice a' n' c'], .int .i64 (b : Int)] w1 fun r w' => ∃ a q c d, r = .returned (.tuple #[.agg #[.bool a, .slice q c d], .int .i64 0]) ∧ Hid (Wh w' a q c d Z) ∧ Hid (Fresh w1.heap.size w' q c d) ∧ Gr w1 w') := fun w1 g s a n c s' a' n' c' hw hw' => by
    have hs : s = false := by
      cases s
      · rfl
      · have := hw.neg_iff.1 rfl; omega
    subst hs
    have := stepS s' a a' n n' c c' b (D : Int) R w1 hw hw' hDi (by omega) (by rw [hZ]; exact Nat.lt_of_lt_of_le hSB (topN_pow (by omega)))
    rw [hZ] at this
    exact this
  have OFF : Hid (∀ w1, Gr w w1 → ∀ (s : Bool) (a : Option Addr) (n c : Nat), Wh w1 s a n c (D : Int) → Calls Tryz.prog 10 #[.agg #[.bool s, .slice a n c], .int .i64 (b : Int)] w1 fun r w' => ∃ a q c d, r = .returned (.tuple #[.agg #[.bool a, .slice q c d], .int .i64 0]) ∧ Hid (Wh w' a q c d (O : Int)) ∧ Hid (Fresh w1.heap.size w' q c d) ∧ Gr w1 w') := fun w1 g s a n c hw => by
    have hs : s = false := by
      cases s
      · rfl
      · have := hw.neg_iff.1 rfl; omega
    subst hs
    have := ofS a n c b D w1 (tab_gr HT.out g) hw hD (by omega) (by omega)
    rw [hO] at this
    exact this
  obtain ⟨P, hP⟩ : ∃ P : Int, ((2 ^ b : Nat) : Int) = P := ⟨_, rfl⟩
  have BD : Hid ((D : Int).natAbs < 2 ^ K) := by show _ < _; rw [Int.natAbs_natCast]; exact hDm
  have BR := hide hRm
  have BS := hide hSB
  have BO : Hid ((O : Int).natAbs < 2 ^ (b + 1)) := by show _ < _; rw [Int.natAbs_natCast]; exact hOP
  rw [hP] at TR1 TR2
  have T1 := hide TR1
  have T2 := hide TR2
  have T3 := hide TR3
  have HP := hide hP
  have HK := hide hK
  have HJ := hide hJ
  have hK2 : K ≤ 1280 := by omega
  have hJ2 : J ≤ 4000 := by omega
  have GW : Gr w w2 := GA.trans g2
  obtain ⟨q70, q71⟩ := bx2 H7
  obtain ⟨q80, q81⟩ := bx2 H8
  have tok0 : True := trivial
  rw [hs7]
  clear hs7 hWK hDm hRm hZ hSB TR1 TR2 TR3 hO hOP e3 hP hPi hDi GA g2 hJ hK
  go_wp2_with (first | (go_at_call 18; (with_reducible refine (PK.out _).mono ?_); rintro r w2 ⟨rfl, rfl⟩) | (go_at_call 12; have _t := tok0; (with_reducible refine (STP.out _ GW s7 a7 n7 c7 s8 a8 n8 c8 W7 W8).mono ?_); rintro r w3 ⟨s9, a9, n9, c9, rfl, W9, F9, g3⟩; clear tok0; have tok1 : True := trivial; replace GW := GW.trans g3; replace W7 := W7.gr g3; replace W8 := W8.gr g3; replace H7 := keepO g3 H7; clear q70 q71; obtain ⟨q70, q71⟩ := bx2 H7; replace H8 := keepO g3 H8; clear q80 q81; obtain ⟨q80, q81⟩ := bx2 H8; replace W9 := W9.out; clear F9; have H9 := blk1 w3 (.cells #[.bool s9, .slice a9 n9 c9] 24); have gx9 : Gr w3 (w3.alloc (.cells #[.bool s9, .slice a9 n9 c9] 24)) := (Gr.refl w3).alloc _; obtain ⟨q90, q91⟩ := bx2 H9; replace GW := GW.trans gx9; replace W7 := W7.gr gx9; replace W8 := W8.gr gx9; replace W9 := W9.gr gx9; replace H7 := keepO gx9 H7; clear q70 q71; obtain ⟨q70, q71⟩ := bx2 H7; replace H8 := keepO gx9 H8; clear q80 q81; obtain ⟨q80, q81⟩ := bx2 H8; clear gx9) | (go_at_call 10; have _t := tok1; (with_reducible refine (OFF.out _ GW s7 a7 n7 c7 W7).mono ?_); rintro r w4 ⟨s11, a11, n11, c11, rfl, W11, F11, g4⟩; clear tok1; have tok2 : True := trivial; replace GW := GW.trans g4; replace W7 := W7.gr g4; replace W8 := W8.gr g4; replace W9 := W9.gr g4; replace H7 := keepO g4 H7; clear q70 q71; obtain ⟨q70, q71⟩ := bx2 H7; replace H8 := keepO g4 H8; clear q80 q81; obtain ⟨q80, q81⟩ := bx2 H8; replace H9 := keepO g4 H9; clear q90 q91; obtain ⟨q90, q91⟩ := bx2 H9; replace W11 := W11.out; clear F11; have H11 := blk1 w4 (.cells #[.bool s11, .slice a11 n11 c11] 24); have gx11 : Gr w4 (w4.alloc (.cells #[.bool s11, .slice a11 n11 c11] 24)) := (Gr.refl w4).alloc _; obtain ⟨q110, q111⟩ := bx2 H11; replace GW := GW.trans gx11; replace W7 := W7.gr gx11; replace W8 := W8.gr gx11; replace W9 := W9.gr gx11; replace W11 := W11.gr gx11; replace H7 := keepO gx11 H7; clear q70 q71; obtain ⟨q70, q71⟩ := bx2 H7; replace H8 := keepO gx11 H8; clear q80 q81; obtain ⟨q80, q81⟩ := bx2 H8; replace H9 := keepO gx11 H9; clear q90 q91; obtain ⟨q90, q91⟩ := bx2 H9; clear gx11) | (go_at_call 20; have _t := tok2; (with_reducible refine (nzWhole 1 1 _ (by omega) (by omega) (by decide)).mono ?_); rintro r w5 ⟨⟨s1, a1, n1, c1, e1, rfl, N1⟩, g5⟩; clear tok2; have tok3 : True := trivial; replace GW := GW.trans g5; replace W7 := W7.gr g5; replace W8 := W8.gr g5; replace W9 := W9.gr g5; replace W11 := W11.gr g5; replace H7 := keepO g5 H7; clear q70 q71; obtain ⟨q70, q71⟩ := bx2 H7; replace H8 := keepO g5 H8; clear q80 q81; obtain ⟨q80, q81⟩ := bx2 H8; replace H9 := keepO g5 H9; clear q90 q91; obtain ⟨q90, q91⟩ := bx2 H9; replace H11 := keepO g5 H11; clear q110 q111; obtain ⟨q110, q111⟩ := bx2 H11) | (go_at_call 19; have _t := tok3; (with_reducible refine (nzScaled s1 a1 n1 c1 e1 1 1 b _ N1 (by omega) (by omega)).mono ?_); rintro r w6 ⟨⟨s13, a13, n13, c13, e13, rfl, N13⟩, g6⟩; clear tok3; have tok4 : True := trivial; replace GW := GW.trans g6; replace W7 := W7.gr g6; replace W8 := W8.gr g6; replace W9 := W9.gr g6; replace W11 := W11.gr g6; replace N1 := N1.gr g6; replace H7 := keepO g6 H7; clear q70 q71; obtain ⟨q70, q71⟩ := bx2 H7; replace H8 := keepO g6 H8; clear q80 q81; obtain ⟨q80, q81⟩ := bx2 H8; replace H9 := keepO g6 H9; clear q90 q91; obtain ⟨q90, q91⟩ := bx2 H9; replace H11 := keepO g6 H11; clear q110 q111; obtain ⟨q110, q111⟩ := bx2 H11; replace N13 := N13.to (Int.one_mul _) (Nat.le_refl _); have H13 := blk1 w6 (.cells #[.bool s13, .slice a13 n13 c13, .int .i64 e13] 40); have gx13 : Gr w6 (w6.alloc (.cells #[.bool s13, .slice a13 n13 c13, .int .i64 e13] 40)) := (Gr.refl w6).alloc _; obtain ⟨q130, q131, q132⟩ := bx3Z H13; replace GW := GW.trans gx13; replace W7 := W7.gr gx13; replace W8 := W8.gr gx13; replace W9 := W9.gr gx13; replace W11 := W11.gr gx13; replace N1 := N1.gr gx13; replace N13 := N13.gr gx13; replace H7 := keepO gx13 H7; clear q70 q71; obtain ⟨q70, q71⟩ := bx2 H7; replace H8 := keepO gx13 H8; clear q80 q81; obtain ⟨q80, q81⟩ := bx2 H8; replace H9 := keepO gx13 H9; clear q90 q91; obtain ⟨q90, q91⟩ := bx2 H9; replace H11 := keepO gx13 H11; clear q110 q111; obtain ⟨q110, q111⟩ := bx2 H11; clear gx13) | (go_at_call 21; have _t := tok4; (with_reducible refine (nzInt s7 a7 n7 c7 (D : Int) K _ W7 BD.out).mono ?_); rintro r w7 ⟨⟨s14, a14, n14, c14, e14, rfl, N14⟩, g7⟩; clear tok4; have tok5 : True := trivial; replace GW := GW.trans g7; replace W7 := W7.gr g7; replace W8 := W8.gr g7; replace W9 := W9.gr g7; replace W11 := W11.gr g7; replace N1 := N1.gr g7; replace N13 := N13.gr g7; replace H7 := keepO g7 H7; clear q70 q71; obtain ⟨q70, q71⟩ := bx2 H7; replace H8 := keepO g7 H8; clear q80 q81; obtain ⟨q80, q81⟩ := bx2 H8; replace H9 := keepO g7 H9; clear q90 q91; obtain ⟨q90, q91⟩ := bx2 H9; replace H11 := keepO g7 H11; clear q110 q111; obtain ⟨q110, q111⟩ := bx2 H11; replace H13 := keepO g7 H13; clear q130 q131 q132; obtain ⟨q130, q131, q132⟩ := bx3Z H13; have H14 := blk1 w7 (.cells #[.bool s14, .slice a14 n14 c14, .int .i64 e14] 40); have gx14 : Gr w7 (w7.alloc (.cells #[.bool s14, .slice a14 n14 c14, .int .i64 e14] 40)) := (Gr.refl w7).alloc _; obtain ⟨q140, q141, q142⟩ := bx3Z H14; replace GW := GW.trans gx14; replace W7 := W7.gr gx14; replace W8 := W8.gr gx14; replace W9 := W9.gr gx14; replace W11 := W11.gr gx14; replace N1 := N1.gr gx14; replace N13 := N13.gr gx14; replace N14 := N14.gr gx14; replace H7 := keepO gx14 H7; clear q70 q71; obtain ⟨q70, q71⟩ := bx2 H7; replace H8 := keepO gx14 H8; clear q80 q81; obtain ⟨q80, q81⟩ := bx2 H8; replace H9 := keepO gx14 H9; clear q90 q91; obtain ⟨q90, q91⟩ := bx2 H9; replace H11 := keepO gx14 H11; clear q110 q111; obtain ⟨q110, q111⟩ := bx2 H11; replace H13 := keepO gx14 H13; clear q130 q131 q132; obtain ⟨q130, q131, q132⟩ := bx3Z H13; clear gx14))
  have AW : Hid (∀ w1, Gr w w1 → Calls Tryz.prog 8 #[] w1 fun r w' => r = .returned (.bool true) ∧ Gr w1 w') := fun w1 g => awakeV w1 (tab_gr HT.out g)
  generalize (w7.alloc (.cells #[.bool s14, .slice a14 n14 c14, .int .i64 e14] 40)) = wa at *
  have HR : Hid (∀ t0 t1 t2 t3 t4 t5 t6 t7 t9 t10 t11 t12 t15 t16 t17 t18 t19 t20 t21 t22 t23 t24 t25 t26 t27 t28 t29 t30 t31 t32 t33 t34 t35 t36 t37 t38 t39 t40 t41 t42 t43 t44 t45 t46 t47 t48 t49 t50 t51 t52 t53 t54 t55 t56 t57 t58 t59 t60 t61 t62 t63 t64 t65 t66 t67 t68 t69 t70 t71 t72 t73 t74 t75 t76 t77 t78 t79 t80 t81 t82 t83 t84 t85 t86 t87 : Value, _) := fun t0 t1 t2 t3 t4 t5 t6 t7 t9 t10 t11 t12 t15 t16 t17 t18 t19 t20 t21 t22 t23 t24 t25 t26 t27 t28 t29 t30 t31 t32 t33 t34 t35 t36 t37 t38 t39 t40 t41 t42 t43 t44 t45 t46 t47 t48 t49 t50 t51 t52 t53 t54 t55 t56 t57 t58 t59 t60 t61 t62 t63 t64 t65 t66 t67 t68 t69 t70 t71 t72 t73 t74 t75 t76 t77 t78 t79 t80 t81 t82 t83 t84 t85 t86 t87 => regSt9 t0 t1 t2 t3 t4 t5 t6 t7 t9 t10 t11 t12 t15 t16 t17 t18 t19 t20 t21 t22 t23 t24 t25 t26 t27 t28 t29 t30 t31 t32 t33 t34 t35 t36 t37 t38 t39 t40 t41 t42 t43 t44 t45 t46 t47 t48 t49 t50 t51 t52 t53 t54 t55 t56 t57 t58 t59 t60 t61 t62 t63 t64 t65 t66 t67 t68 t69 t70 t71 t72 t73 t74 t75 t76 t77 t78 t79 t80 t81 t82 t83 t84 t85 t86 t87 w6.heap.size n13 c13 w7.heap.size n14 c14 p8 n8 c8 s13 s14 s8 a13 a14 a8 e13 e14 R ((D : Int) * R) (((2 ^ b : Nat) : Int) - (D : Int) * R) K (K + K) (1 + b + (K + K) + 1) wa (fun w1 g => nzInt s8 a8 n8 c8 R K w1 (W8.gr g) BR.out) (fun w1 s a n c e g h => nzTimes s14 s a14 a n14 n c14 c e14 e (D : Int) R K K w1 (N14.gr g) h (by omega) (by omega)) (fun w1 s a n c e g h => nzLess s13 s a13 a n13 n c13 c e13 e ((2 ^ b : Nat) : Int) ((D : Int) * R) (1 + b) (K + K) w1 (N13.gr g) h (by omega) (by omega)) (lt_of_get2 H13) (lt_of_get2 H14) (lt_of_get2 H8) ⟨q130, q131, q132, q140, q141, q142, q80, q81⟩
  refine Code.wp_mono ?_ (HR.out _ _ _ _ _ _ _ _ _ _ _ _ _ _ _ _ _ _ _ _ _ _ _ _ _ _ _ _ _ _ _ _ _ _ _ _ _ _ _ _ _ _ _ _ _ _ _ _ _ _ _ _ _ _ _ _ _ _ _ _ _ _ _ _ _ _ _ _ _ _ _ _ _ _ _ _ _ _ _ _ _ _ _ _ _)
  intro e a1' wb hR
  cases e <;> first | (exact False.elim hR) | skip
  obtain ⟨u47, u48, u49, u50, u51, u52, p15, s15, a15, n15, c15, e15, rfl, H15, N15, hb15, gb⟩ := hR
  clear HR
  replace GW := GW.trans gb
  replace W7 := W7.gr gb
  replace W8 := W8.gr gb
  replace W9 := W9.gr gb
  replace W11 := W11.gr gb
  replace N1 := N1.gr gb
  replace N13 := N13.gr gb
  replace N14 := N14.gr gb
  replace H7 := keepO gb H7
  clear q70 q71
  obtain ⟨q70, q71⟩ := bx2 H7
  replace H8 := keepO gb H8
  clear q80 q81
  obtain ⟨q80, q81⟩ := bx2 H8
  replace H9 := keepO gb H9
  clear q90 q91
  obtain ⟨q90, q91⟩ := bx2 H9
  replace H11 := keepO gb H11
  clear q110 q111
  obtain ⟨q110, q111⟩ := bx2 H11
  replace H13 := keepO gb H13
  clear q130 q131 q132
  obtain ⟨q130, q131, q132⟩ := bx3Z H13
  replace H14 := keepO gb H14
  clear q140 q141 q142
  obtain ⟨q140, q141, q142⟩ := bx3Z H14
  clear gb
  obtain ⟨q150, q151, q152⟩ := bx3Z H15
  go_wp2
  have HR : Hid (∀ t0 t1 t2 t3 t4 t5 t6 t7 t8 t10 t11 t12 t15 t16 t17 t18 t19 t20 t21 t22 t23 t24 t25 t26 t27 t28 t29 t30 t31 t32 t33 t34 t35 t36 t37 t38 t39 t40 t41 t42 t43 t44 t45 t46 t47 t48 t49 t50 t51 t52 t53 t54 t55 t56 t57 t58 t59 t60 t61 t62 t63 t64 t65 t66 t67 t68 t69 t70 t71 t72 t73 t74 t75 t76 t77 t78 t79 t80 t81 t82 t83 t84 t85 t86 t87 : Value, _) := fun t0 t1 t2 t3 t4 t5 t6 t7 t8 t10 t11 t12 t15 t16 t17 t18 t19 t20 t21 t22 t23 t24 t25 t26 t27 t28 t29 t30 t31 t32 t33 t34 t35 t36 t37 t38 t39 t40 t41 t42 t43 t44 t45 t46 t47 t48 t49 t50 t51 t52 t53 t54 t55 t56 t57 t58 t59 t60 t61 t62 t63 t64 t65 t66 t67 t68 t69 t70 t71 t72 t73 t74 t75 t76 t77 t78 t79 t80 t81 t82 t83 t84 t85 t86 t87 => regSt10 t0 t1 t2 t3 t4 t5 t6 t7 t8 t10 t11 t12 t15 t16 t17 t18 t19 t20 t21 t22 t23 t24 t25 t26 t27 t28 t29 t30 t31 t32 t33 t34 t35 t36 t37 t38 t39 t40 t41 t42 t43 t44 t45 t46 t47 t48 t49 t50 t51 t52 t53 t54 t55 t56 t57 t58 t59 t60 t61 t62 t63 t64 t65 t66 t67 t68 t69 t70 t71 t72 t73 t74 t75 t76 t77 t78 t79 t80 t81 t82 t83 t84 t85 t86 t87 w6.heap.size n13 c13 w7.heap.size n14 c14 w3.heap.size n9 c9 s13 s14 s9 a13 a14 a9 e13 e14 Z ((D : Int) * Z) (((2 ^ b : Nat) : Int) - (D : Int) * Z) J (K + J) (1 + b + (K + J) + 1) wb (fun w1 g => nzInt s9 a9 n9 c9 Z J w1 (W9.gr g) BS.out) (fun w1 s a n c e g h => nzTimes s14 s a14 a n14 n c14 c e14 e (D : Int) Z K J w1 (N14.gr g) h (by omega) (by omega)) (fun w1 s a n c e g h => nzLess s13 s a13 a n13 n c13 c e13 e ((2 ^ b : Nat) : Int) ((D : Int) * Z) (1 + b) (K + J) w1 (N13.gr g) h (by omega) (by omega)) (lt_of_get2 H13) (lt_of_get2 H14) (lt_of_get2 H9) ⟨q130, q131, q132, q140, q141, q142, q90, q91⟩
  refine Code.wp_mono ?_ (HR.out _ _ _ _ _ _ _ _ _ _ _ _ _ _ _ _ _ _ _ _ _ _ _ _ _ _ _ _ _ _ _ _ _ _ _ _ _ _ _ _ _ _ _ _ _ _ _ _ _ _ _ _ _ _ _ _ _ _ _ _ _ _ _ _ _ _ _ _ _ _ _ _ _ _ _ _ _ _ _ _ _ _ _ _ _)
  intro e a1' wc hR
  cases e <;> first | (exact False.elim hR) | skip
  obtain ⟨u53, u54, u55, u56, u57, u58, p16, s16, a16, n16, c16, e16, rfl, H16, N16, hb16, gc⟩ := hR
  clear HR
  replace GW := GW.trans gc
  replace W7 := W7.gr gc
  replace W8 := W8.gr gc
  replace W9 := W9.gr gc
  replace W11 := W11.gr gc
  replace N1 := N1.gr gc
  replace N13 := N13.gr gc
  replace N14 := N14.gr gc
  replace N15 := N15.gr gc
  replace H7 := keepO gc H7
  clear q70 q71
  obtain ⟨q70, q71⟩ := bx2 H7
  replace H8 := keepO gc H8
  clear q80 q81
  obtain ⟨q80, q81⟩ := bx2 H8
  replace H9 := keepO gc H9
  clear q90 q91
  obtain ⟨q90, q91⟩ := bx2 H9
  replace H11 := keepO gc H11
  clear q110 q111
  obtain ⟨q110, q111⟩ := bx2 H11
  replace H13 := keepO gc H13
  clear q130 q131 q132
  obtain ⟨q130, q131, q132⟩ := bx3Z H13
  replace H14 := keepO gc H14
  clear q140 q141 q142
  obtain ⟨q140, q141, q142⟩ := bx3Z H14
  replace H15 := keepO gc H15
  clear q150 q151 q152
  obtain ⟨q150, q151, q152⟩ := bx3Z H15
  clear gc
  obtain ⟨q160, q161, q162⟩ := bx3Z H16
  go_wp2_with (first | (go_at_call 23; have _t := tok5; (with_reducible refine (nzTimes s15 s15 a15 a15 n15 n15 c15 c15 e15 e15 _ _ _ _ _ N15 N15 (by omega) (by omega)).mono ?_); rintro r wd ⟨⟨s17, a17, n17, c17, e17, rfl, N17⟩, gd⟩; clear tok5; have tok6 : True := trivial; replace GW := GW.trans gd; replace W7 := W7.gr gd; replace W8 := W8.gr gd; replace W9 := W9.gr gd; replace W11 := W11.gr gd; replace N1 := N1.gr gd; replace N13 := N13.gr gd; replace N14 := N14.gr gd; replace N15 := N15.gr gd; replace N16 := N16.gr gd; replace H7 := keepO gd H7; clear q70 q71; obtain ⟨q70, q71⟩ := bx2 H7; replace H8 := keepO gd H8; clear q80 q81; obtain ⟨q80, q81⟩ := bx2 H8; replace H9 := keepO gd H9; clear q90 q91; obtain ⟨q90, q91⟩ := bx2 H9; replace H11 := keepO gd H11; clear q110 q111; obtain ⟨q110, q111⟩ := bx2 H11; replace H13 := keepO gd H13; clear q130 q131 q132; obtain ⟨q130, q131, q132⟩ := bx3Z H13; replace H14 := keepO gd H14; clear q140 q141 q142; obtain ⟨q140, q141, q142⟩ := bx3Z H14; replace H15 := keepO gd H15; clear q150 q151 q152; obtain ⟨q150, q151, q152⟩ := bx3Z H15; replace H16 := keepO gd H16; clear q160 q161 q162; obtain ⟨q160, q161, q162⟩ := bx3Z H16; have H17 := blk1 wd (.cells #[.bool s17, .slice a17 n17 c17, .int .i64 e17] 40); have gx17 : Gr wd (wd.alloc (.cells #[.bool s17, .slice a17 n17 c17, .int .i64 e17] 40)) := (Gr.refl wd).alloc _; obtain ⟨q170, q171, q172⟩ := bx3Z H17; replace GW := GW.trans gx17; replace W7 := W7.gr gx17; replace W8 := W8.gr gx17; replace W9 := W9.gr gx17; replace W11 := W11.gr gx17; replace N1 := N1.gr gx17; replace N13 := N13.gr gx17; replace N14 := N14.gr gx17; replace N15 := N15.gr gx17; replace N16 := N16.gr gx17; replace N17 := N17.gr gx17; replace H7 := keepO gx17 H7; clear q70 q71; obtain ⟨q70, q71⟩ := bx2 H7; replace H8 := keepO gx17 H8; clear q80 q81; obtain ⟨q80, q81⟩ := bx2 H8; replace H9 := keepO gx17 H9; clear q90 q91; obtain ⟨q90, q91⟩ := bx2 H9; replace H11 := keepO gx17 H11; clear q110 q111; obtain ⟨q110, q111⟩ := bx2 H11; replace H13 := keepO gx17 H13; clear q130 q131 q132; obtain ⟨q130, q131, q132⟩ := bx3Z H13; replace H14 := keepO gx17 H14; clear q140 q141 q142; obtain ⟨q140, q141, q142⟩ := bx3Z H14; replace H15 := keepO gx17 H15; clear q150 q151 q152; obtain ⟨q150, q151, q152⟩ := bx3Z H15; replace H16 := keepO gx17 H16; clear q160 q161 q162; obtain ⟨q160, q161, q162⟩ := bx3Z H16; clear gx17) | (go_at_call 19; have _t := tok6; (with_reducible refine (nzScaled s16 a16 n16 c16 e16 _ _ b _ N16 (by omega) (by omega)).mono ?_); rintro r we ⟨⟨s18, a18, n18, c18, e18, rfl, N18⟩, ge⟩; clear tok6; have tok7 : True := trivial; replace GW := GW.trans ge; replace W7 := W7.gr ge; replace W8 := W8.gr ge; replace W9 := W9.gr ge; replace W11 := W11.gr ge; replace N1 := N1.gr ge; replace N13 := N13.gr ge; replace N14 := N14.gr ge; replace N15 := N15.gr ge; replace N16 := N16.gr ge; replace N17 := N17.gr ge; replace H7 := keepO ge H7; clear q70 q71; obtain ⟨q70, q71⟩ := bx2 H7; replace H8 := keepO ge H8; clear q80 q81; obtain ⟨q80, q81⟩ := bx2 H8; replace H9 := keepO ge H9; clear q90 q91; obtain ⟨q90, q91⟩ := bx2 H9; replace H11 := keepO ge H11; clear q110 q111; obtain ⟨q110, q111⟩ := bx2 H11; replace H13 := keepO ge H13; clear q130 q131 q132; obtain ⟨q130, q131, q132⟩ := bx3Z H13; replace H14 := keepO ge H14; clear q140 q141 q142; obtain ⟨q140, q141, q142⟩ := bx3Z H14; replace H15 := keepO ge H15; clear q150 q151 q152; obtain ⟨q150, q151, q152⟩ := bx3Z H15; replace H16 := keepO ge H16; clear q160 q161 q162; obtain ⟨q160, q161, q162⟩ := bx3Z H16; replace H17 := keepO ge H17; clear q170 q171 q172; obtain ⟨q170, q171, q172⟩ := bx3Z H17; have H18 := blk1 we (.cells #[.bool s18, .slice a18 n18 c18, .int .i64 e18] 40); have gx18 : Gr we (we.alloc (.cells #[.bool s18, .slice a18 n18 c18, .int .i64 e18] 40)) := (Gr.refl we).alloc _; obtain ⟨q180, q181, q182⟩ := bx3Z H18; replace GW := GW.trans gx18; replace W7 := W7.gr gx18; replace W8 := W8.gr gx18; replace W9 := W9.gr gx18; replace W11 := W11.gr gx18; replace N1 := N1.gr gx18; replace N13 := N13.gr gx18; replace N14 := N14.gr gx18; replace N15 := N15.gr gx18; replace N16 := N16.gr gx18; replace N17 := N17.gr gx18; replace N18 := N18.gr gx18; replace H7 := keepO gx18 H7; clear q70 q71; obtain ⟨q70, q71⟩ := bx2 H7; replace H8 := keepO gx18 H8; clear q80 q81; obtain ⟨q80, q81⟩ := bx2 H8; replace H9 := keepO gx18 H9; clear q90 q91; obtain ⟨q90, q91⟩ := bx2 H9; replace H11 := keepO gx18 H11; clear q110 q111; obtain ⟨q110, q111⟩ := bx2 H11; replace H13 := keepO gx18 H13; clear q130 q131 q132; obtain ⟨q130, q131, q132⟩ := bx3Z H13; replace H14 := keepO gx18 H14; clear q140 q141 q142; obtain ⟨q140, q141, q142⟩ := bx3Z H14; replace H15 := keepO gx18 H15; clear q150 q151 q152; obtain ⟨q150, q151, q152⟩ := bx3Z H15; replace H16 := keepO gx18 H16; clear q160 q161 q162; obtain ⟨q160, q161, q162⟩ := bx3Z H16; replace H17 := keepO gx18 H17; clear q170 q171 q172; obtain ⟨q170, q171, q172⟩ := bx3Z H17; clear gx18))
  generalize (we.alloc (.cells #[.bool s18, .slice a18 n18 c18, .int .i64 e18] 40)) = wf at *
  have HR : Hid (∀ t0 t1 t3 t4 t5 t6 t7 t8 t9 t10 t11 t12 t13 t15 t16 t19 t20 t21 t22 t23 t24 t25 t26 t27 t28 t29 t30 t31 t32 t33 t34 t35 t36 t37 t38 t39 t40 t41 t42 t43 t44 t45 t46 t47 t48 t49 t50 t51 t52 t53 t54 t55 t56 t57 t58 t59 t60 t61 t62 t63 t64 t65 t66 t67 t68 t69 t70 t71 t72 t73 t74 t75 t76 t77 t78 t79 t80 t81 t82 t83 t84 t85 t86 t87 : Value, _) := fun t0 t1 t3 t4 t5 t6 t7 t8 t9 t10 t11 t12 t13 t15 t16 t19 t20 t21 t22 t23 t24 t25 t26 t27 t28 t29 t30 t31 t32 t33 t34 t35 t36 t37 t38 t39 t40 t41 t42 t43 t44 t45 t46 t47 t48 t49 t50 t51 t52 t53 t54 t55 t56 t57 t58 t59 t60 t61 t62 t63 t64 t65 t66 t67 t68 t69 t70 t71 t72 t73 t74 t75 t76 t77 t78 t79 t80 t81 t82 t83 t84 t85 t86 t87 => regSt13 t0 t1 t3 t4 t5 t6 t7 t8 t9 t10 t11 t12 t13 t15 t16 t19 t20 t21 t22 t23 t24 t25 t26 t27 t28 t29 t30 t31 t32 t33 t34 t35 t36 t37 t38 t39 t40 t41 t42 t43 t44 t45 t46 t47 t48 t49 t50 t51 t52 t53 t54 t55 t56 t57 t58 t59 t60 t61 t62 t63 t64 t65 t66 t67 t68 t69 t70 t71 t72 t73 t74 t75 t76 t77 t78 t79 t80 t81 t82 t83 t84 t85 t86 t87 we.heap.size n18 c18 wd.heap.size n17 c17 w7.heap.size n14 c14 s18 s17 s14 a18 a17 a14 e18 e17 e14 b ((D : Int) * ((2 ^ b : Nat) : Int)) (((((2 ^ b : Nat) : Int) - (D : Int) * R) * (((2 ^ b : Nat) : Int) - (D : Int) * R)) + ((D : Int) * ((2 ^ b : Nat) : Int))) (sg (((((2 ^ b : Nat) : Int) - (D : Int) * Z) * ((2 ^ b : Nat) : Int)) - ((((2 ^ b : Nat) : Int) - (D : Int) * R) * (((2 ^ b : Nat) : Int) - (D : Int) * R)))) (sg (((((2 ^ b : Nat) : Int) - (D : Int) * Z) * ((2 ^ b : Nat) : Int)) - (((((2 ^ b : Nat) : Int) - (D : Int) * R) * (((2 ^ b : Nat) : Int) - (D : Int) * R)) + ((D : Int) * ((2 ^ b : Nat) : Int))))) (K + b) (((1 + b + (K + K) + 1) + (1 + b + (K + K) + 1)) + (K + b) + 1) wf (fun w1 g => nzCompare s18 s17 a18 a17 n18 n17 c18 c17 e18 e17 _ _ _ _ w1 (N18.gr g) (N17.gr g) (by omega) (by omega)) (fun w1 g => nzScaled s14 a14 n14 c14 e14 _ _ b w1 (N14.gr g) (by omega) (by omega)) (fun w1 s a n c e g h => nzPlus s17 s a17 a n17 n c17 c e17 e _ _ _ _ w1 (N17.gr g) h (by omega) (by omega)) (fun w1 s a n c e g h => nzCompare s18 s a18 a n18 n c18 c e18 e _ _ _ _ w1 (N18.gr g) h (by omega) (by omega)) (sg_nn (by rw [HP.out]; have := T1.out; omega)) (sg_lt (by rw [HP.out]; have := T2.out; omega)) (lt_of_get2 H18) (lt_of_get2 H17) (lt_of_get2 H14) ⟨q180, q181, q182, q170, q171, q172, q140, q141, q142⟩
  refine Code.wp_mono ?_ (HR.out _ _ _ _ _ _ _ _ _ _ _ _ _ _ _ _ _ _ _ _ _ _ _ _ _ _ _ _ _ _ _ _ _ _ _ _ _ _ _ _ _ _ _ _ _ _ _ _ _ _ _ _ _ _ _ _ _ _ _ _ _ _ _ _ _ _ _ _ _ _ _ _ _ _ _ _ _ _ _ _ _ _ _ _)
  intro e a1' wg hR
  cases e <;> first | (exact False.elim hR) | skip
  obtain ⟨u65, u66, u67, u68, u69, u70, u71, u72, u73, u74, u75, u76, u77, rfl, gf⟩ := hR
  clear HR
  replace GW := GW.trans gf
  replace W7 := W7.gr gf
  replace W8 := W8.gr gf
  replace W9 := W9.gr gf
  replace W11 := W11.gr gf
  replace N1 := N1.gr gf
  replace N13 := N13.gr gf
  replace N14 := N14.gr gf
  replace N15 := N15.gr gf
  replace N16 := N16.gr gf
  replace N17 := N17.gr gf
  replace N18 := N18.gr gf
  replace H7 := keepO gf H7
  clear q70 q71
  obtain ⟨q70, q71⟩ := bx2 H7
  replace H8 := keepO gf H8
  clear q80 q81
  obtain ⟨q80, q81⟩ := bx2 H8
  replace H9 := keepO gf H9
  clear q90 q91
  obtain ⟨q90, q91⟩ := bx2 H9
  replace H11 := keepO gf H11
  clear q110 q111
  obtain ⟨q110, q111⟩ := bx2 H11
  replace H13 := keepO gf H13
  clear q130 q131 q132
  obtain ⟨q130, q131, q132⟩ := bx3Z H13
  replace H14 := keepO gf H14
  clear q140 q141 q142
  obtain ⟨q140, q141, q142⟩ := bx3Z H14
  replace H15 := keepO gf H15
  clear q150 q151 q152
  obtain ⟨q150, q151, q152⟩ := bx3Z H15
  replace H16 := keepO gf H16
  clear q160 q161 q162
  obtain ⟨q160, q161, q162⟩ := bx3Z H16
  replace H17 := keepO gf H17
  clear q170 q171 q172
  obtain ⟨q170, q171, q172⟩ := bx3Z H17
  replace H18 := keepO gf H18
  clear q180 q181 q182
  obtain ⟨q180, q181, q182⟩ := bx3Z H18
  clear gf
  go_wp2
  have HR : Hid (∀ t0 t1 t2 t3 t4 t5 t6 t7 t8 t10 t12 t13 t14 t15 t16 t17 t18 t19 t20 t21 t22 t23 t24 t25 t26 t27 t28 t29 t30 t31 t32 t33 t34 t35 t36 t37 t38 t39 t40 t41 t42 t43 t44 t45 t46 t47 t48 t49 t50 t51 t52 t53 t54 t55 t56 t57 t58 t59 t60 t61 t62 t63 t64 t65 t66 t67 t68 t69 t70 t71 t72 t73 t74 t75 t76 t77 t78 t79 t80 t81 t82 t83 t84 t85 t86 t87 : Value, _) := fun t0 t1 t2 t3 t4 t5 t6 t7 t8 t10 t12 t13 t14 t15 t16 t17 t18 t19 t20 t21 t22 t23 t24 t25 t26 t27 t28 t29 t30 t31 t32 t33 t34 t35 t36 t37 t38 t39 t40 t41 t42 t43 t44 t45 t46 t47 t48 t49 t50 t51 t52 t53 t54 t55 t56 t57 t58 t59 t60 t61 t62 t63 t64 t65 t66 t67 t68 t69 t70 t71 t72 t73 t74 t75 t76 t77 t78 t79 t80 t81 t82 t83 t84 t85 t86 t87 => regSt15 t0 t1 t2 t3 t4 t5 t6 t7 t8 t10 t12 t13 t14 t15 t16 t17 t18 t19 t20 t21 t22 t23 t24 t25 t26 t27 t28 t29 t30 t31 t32 t33 t34 t35 t36 t37 t38 t39 t40 t41 t42 t43 t44 t45 t46 t47 t48 t49 t50 t51 t52 t53 t54 t55 t56 t57 t58 t59 t60 t61 t62 t63 t64 t65 t66 t67 t68 t69 t70 t71 t72 t73 t74 t75 t76 t77 t78 t79 t80 t81 t82 t83 t84 t85 t86 t87 w3.heap.size n9 c9 w4.heap.size n11 c11 s9 s11 a9 a11 Z (O : Int) (sg (Z - (O : Int))) J (b + 1) wg (fun w1 g => nzInt s9 a9 n9 c9 Z J w1 (W9.gr g) BS.out) (fun w1 g => nzInt s11 a11 n11 c11 (O : Int) (b + 1) w1 (W11.gr g) BO.out) (fun w1 s a n c e s' a' n' c' e' g h h' => nzCompare s s' a a' n n' c c' e e' _ _ _ _ w1 h h' (by omega) (by omega)) (fun w1 g => AW.out w1 (GW.trans g)) (sg_np (by have := T3.out; omega)) (lt_of_get2 H9) (lt_of_get2 H11) ⟨q90, q91, q110, q111⟩
  refine Code.wp_mono ?_ (HR.out _ _ _ _ _ _ _ _ _ _ _ _ _ _ _ _ _ _ _ _ _ _ _ _ _ _ _ _ _ _ _ _ _ _ _ _ _ _ _ _ _ _ _ _ _ _ _ _ _ _ _ _ _ _ _ _ _ _ _ _ _ _ _ _ _ _ _ _ _ _ _ _ _ _ _ _ _ _ _ _ _ _ _ _ _ _)
  intro e a1' wh hR
  cases e <;> first | (exact False.elim hR) | skip
  obtain ⟨u79, u80, u81, u82, u83, u84, u85, u86, u87, rfl, gh⟩ := hR
  clear HR
  replace GW := GW.trans gh
  replace W7 := W7.gr gh
  replace W8 := W8.gr gh
  replace W9 := W9.gr gh
  replace W11 := W11.gr gh
  replace N1 := N1.gr gh
  replace N13 := N13.gr gh
  replace N14 := N14.gr gh
  replace N15 := N15.gr gh
  replace N16 := N16.gr gh
  replace N17 := N17.gr gh
  replace N18 := N18.gr gh
  replace H7 := keepO gh H7
  clear q70 q71
  obtain ⟨q70, q71⟩ := bx2 H7
  replace H8 := keepO gh H8
  clear q80 q81
  obtain ⟨q80, q81⟩ := bx2 H8
  replace H9 := keepO gh H9
  clear q90 q91
  obtain ⟨q90, q91⟩ := bx2 H9
  replace H11 := keepO gh H11
  clear q110 q111
  obtain ⟨q110, q111⟩ := bx2 H11
  replace H13 := keepO gh H13
  clear q130 q131 q132
  obtain ⟨q130, q131, q132⟩ := bx3Z H13
  replace H14 := keepO gh H14
  clear q140 q141 q142
  obtain ⟨q140, q141, q142⟩ := bx3Z H14
  replace H15 := keepO gh H15
  clear q150 q151 q152
  obtain ⟨q150, q151, q152⟩ := bx3Z H15
  replace H16 := keepO gh H16
  clear q160 q161 q162
  obtain ⟨q160, q161, q162⟩ := bx3Z H16
  replace H17 := keepO gh H17
  clear q170 q171 q172
  obtain ⟨q170, q171, q172⟩ := bx3Z H17
  replace H18 := keepO gh H18
  clear q180 q181 q182
  obtain ⟨q180, q181, q182⟩ := bx3Z H18
  clear gh
  go_wp2
  go_ret
  exact ⟨rfl, GW⟩
end Go.Proofs.YtnhekagmdniokaaGreatDoor
