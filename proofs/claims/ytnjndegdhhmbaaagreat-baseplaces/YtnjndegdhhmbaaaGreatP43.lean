import Derived.Test.YtnjndegdhhmbaaaGreatP40
import Derived.Test.YtnjndegdhhmbaaaGreatP42
namespace Go.Proofs.YtnjndegdhhmbaaaGreat
open Go.RowKit
set_option linter.unusedVariables false
set_option linter.unusedSimpArgs false

theorem ofP (x : Int) (w : World) : Calls Tryz.prog 4 #[.int .i64 x] w fun r w' => r = .returned (.int .i64 (2 + x % 35)) ∧ w' = w := by
  have PK : Hid (∀ w1, Calls Tryz.prog 7 #[.int .i64 x, .int .i64 35] w1 fun r w' => r = .returned (.int .i64 (x % 35)) ∧ w' = w1) := fun w1 => pickV x 35 (by omega) (by omega) w1
  have h0 : 0 ≤ x % 35 := Int.emod_nonneg _ (by omega)
  have h1 : x % 35 < 35 := Int.emod_lt_of_pos _ (by omega)
  generalize x % 35 = q at *
  go_enter Tryz.func4, Tryz.ntmps4
  go_wp2_with (go_at_call 7; (with_reducible refine (PK.out _).mono ?_); rintro r w1 ⟨rfl, rfl⟩)
  go_ret
  exact ⟨rfl, rfl⟩
theorem iv_step (neg : Bool) (X b d : Nat) : iv neg X * (b : Int) + iv neg d = iv neg (X * b + d) := by
  cases neg with
  | false => show (X : Int) * b + d = ((X * b + d : Nat) : Int); rw [Int.natCast_add, Int.natCast_mul]
  | true => show -(X : Int) * b + -(d : Int) = -((X * b + d : Nat) : Int); rw [Int.natCast_add, Int.natCast_mul, Int.neg_add, Int.neg_mul]
theorem wrap_small {d : Nat} (h : d < 36) : IntKind.u64.wrap (d : Int) = (d : Int) := by
  have key : ∀ d : Fin 36, IntKind.u64.wrap ((d.val : Nat) : Int) = ((d.val : Nat) : Int) := by decide +kernel
  exact key ⟨d, h⟩
theorem cmpZ {w1 : World} {x y : Value} {A B : Int} (h : Calls Tryz.prog 13 #[x, y] w1 fun r w' => r = .returned (.int .i64 (sg (A - B))) ∧ Gr w1 w') (e : B = A) : Calls Tryz.prog 13 #[x, y] w1 fun r w' => r = .returned (.int .i64 0) ∧ Gr w1 w' := by
  subst e
  rw [Int.sub_self, sg_zero] at h
  exact h
set_option maxRecDepth 8000 in
set_option maxHeartbeats 8000000 in
theorem basePlacesP (s : ByteArray) (hss : s.size ≤ 140737488355328) (tail : ByteArray) (hst : tail.size ≤ 140737488355328) (by_ : Int) (hb1 : -9223372036854775808 ≤ by_) (hb2 : by_ ≤ 9223372036854775807) (more : Int) (hm1 : -9223372036854775808 ≤ more) (hm2 : more ≤ 9223372036854775807) (w : World) :
    Calls Tryz.prog 3 #[.string s, .string tail, .int .i64 by_, .int .i64 more] w fun r w' => r = .returned (.bool true) ∧ Gr w w' := by
  have OFB := hide (fun w1 => ofP by_ w1)
  obtain ⟨b, hb⟩ : ∃ b : Nat, (b : Int) = 2 + by_ % 35 := ⟨(2 + by_ % 35).toNat, by omega⟩
  have h2 : 2 ≤ b := by omega
  have h36 : b ≤ 36 := by omega
  rw [← hb] at OFB
  obtain ⟨d, hd⟩ : ∃ d : Nat, (d : Int) = more % (b : Int) := ⟨(more % (b : Int)).toNat, by have := Int.emod_nonneg more (show (b : Int) ≠ 0 by omega); omega⟩
  have hdb : d < b := by have := Int.emod_lt_of_pos more (show (0 : Int) < (b : Int) by omega); omega
  have PK : Hid (∀ w1, Calls Tryz.prog 7 #[.int .i64 more, .int .i64 (b : Int)] w1 fun r w' => r = .returned (.int .i64 (d : Int)) ∧ w' = w1) := fun w1 => by rw [hd]; exact pickV more b (by omega) (by omega) w1
  have AW := hide awakeB
  have GW : Gr w w := Gr.refl w
  have tok0 : True := trivial
  clear hb1 hb2 hm1 hm2 hb hd
  by_cases hsz : 2999 < s.size + tail.size
  · have i1 : (2999 : Int) < (s.size : Int) + (tail.size : Int) := by omega
    go_enter Tryz.func3, Tryz.ntmps3
    go_wp2_with (first | (go_at_call 4; (with_reducible refine (OFB.out _).mono ?_); rintro r w1 ⟨rfl, rfl⟩) | (go_at_call 5; have _t := tok0; (with_reducible refine (AW.out _).mono ?_); rintro r w2 ⟨rfl, g2⟩; clear tok0; have tok1 : True := trivial; replace GW := GW.trans g2))
    go_ret
    exact ⟨rfl, GW⟩
  have i1 : ¬ (2999 : Int) < (s.size : Int) + (tail.size : Int) := by omega
  obtain ⟨K, hK⟩ : ∃ K : Nat, K = 18000 := ⟨_, rfl⟩
  have hK2 : K ≤ 18000 := by omega
  have hd36 : d < 36 := by omega
  have ALd := alph_one hd36
  have i3 : ¬ 9223372036854775807 < s.size + (stB [Bs.dg d]).size := by rw [size_one]; omega
  have i4 : ¬ 9223372036854775807 < s.size + tail.size := by omega
  rcases placesN b s tail d h2 h36 hdb (by omega) K hK with ⟨a, PS, ha, PT⟩ | ⟨neg, X, hX, PS, PZ, PN⟩
  · clear hK ALd
    by_cases hlt : a < s.size
    · have PT1 := PT hlt
      have i2 : (a : Int) < (s.size : Int) := by omega
      clear PT
      go_enter Tryz.func3, Tryz.ntmps3
      go_wp2_with (first | (go_at_call 4; (with_reducible refine (OFB.out _).mono ?_); rintro r w1 ⟨rfl, rfl⟩) | (go_at_call 6; have _t := tok0; (with_reducible refine (PS.out _).mono ?_); rintro r w2 ⟨rfl, g2⟩; clear tok0; have tok1 : True := trivial; replace GW := GW.trans g2; obtain ⟨H9, H10⟩ := blk2 w2 (.cells #[.bool false, .slice none 0 0] 26) (.cells #[.int .i64 9, .int .i64 (a : Int)] 29); have gy9 : Gr w2 ((w2.alloc (.cells #[.bool false, .slice none 0 0] 26)).alloc (.cells #[.int .i64 9, .int .i64 (a : Int)] 29)) := ((Gr.refl w2).alloc _).alloc _; obtain ⟨q90, q91⟩ := bx2 H9; obtain ⟨q100, q101⟩ := bx2 H10; replace GW := GW.trans gy9; clear gy9) | (go_at_call 6; have _t := tok1; (with_reducible refine (PT1.out _).mono ?_); rintro r w3 ⟨rfl, g3⟩; clear tok1; have tok2 : True := trivial; replace GW := GW.trans g3; replace H9 := keepO g3 H9; clear q90 q91; obtain ⟨q90, q91⟩ := bx2 H9; replace H10 := keepO g3 H10; clear q100 q101; obtain ⟨q100, q101⟩ := bx2 H10; obtain ⟨H11, H12⟩ := blk2 w3 (.cells #[.bool false, .slice none 0 0] 26) (.cells #[.int .i64 9, .int .i64 (a : Int)] 29); have gy11 : Gr w3 ((w3.alloc (.cells #[.bool false, .slice none 0 0] 26)).alloc (.cells #[.int .i64 9, .int .i64 (a : Int)] 29)) := ((Gr.refl w3).alloc _).alloc _; obtain ⟨q110, q111⟩ := bx2 H11; obtain ⟨q120, q121⟩ := bx2 H12; replace GW := GW.trans gy11; replace H9 := keepO gy11 H9; clear q90 q91; obtain ⟨q90, q91⟩ := bx2 H9; replace H10 := keepO gy11 H10; clear q100 q101; obtain ⟨q100, q101⟩ := bx2 H10; clear gy11) | (go_at_call 5; have _t := tok2; (with_reducible refine (AW.out _).mono ?_); rintro r w4 ⟨rfl, g4⟩; clear tok2; have tok3 : True := trivial; replace GW := GW.trans g4; replace H9 := keepO g4 H9; clear q90 q91; obtain ⟨q90, q91⟩ := bx2 H9; replace H10 := keepO g4 H10; clear q100 q101; obtain ⟨q100, q101⟩ := bx2 H10; replace H11 := keepO g4 H11; clear q110 q111; obtain ⟨q110, q111⟩ := bx2 H11; replace H12 := keepO g4 H12; clear q120 q121; obtain ⟨q120, q121⟩ := bx2 H12))
      go_ret
      exact ⟨rfl, GW⟩
    · obtain rfl : a = s.size := by omega
      clear PT
      go_enter Tryz.func3, Tryz.ntmps3
      go_wp2_with (first | (go_at_call 4; (with_reducible refine (OFB.out _).mono ?_); rintro r w1 ⟨rfl, rfl⟩) | (go_at_call 6; have _t := tok0; (with_reducible refine (PS.out _).mono ?_); rintro r w2 ⟨rfl, g2⟩; clear tok0; have tok1 : True := trivial; replace GW := GW.trans g2; obtain ⟨H9, H10⟩ := blk2 w2 (.cells #[.bool false, .slice none 0 0] 26) (.cells #[.int .i64 9, .int .i64 (s.size : Int)] 29); have gy9 : Gr w2 ((w2.alloc (.cells #[.bool false, .slice none 0 0] 26)).alloc (.cells #[.int .i64 9, .int .i64 (s.size : Int)] 29)) := ((Gr.refl w2).alloc _).alloc _; obtain ⟨q90, q91⟩ := bx2 H9; obtain ⟨q100, q101⟩ := bx2 H10; replace GW := GW.trans gy9; clear gy9) | (go_at_call 5; have _t := tok1; (with_reducible refine (AW.out _).mono ?_); rintro r w4 ⟨rfl, g4⟩; clear tok1; have tok2 : True := trivial; replace GW := GW.trans g4; replace H9 := keepO g4 H9; clear q90 q91; obtain ⟨q90, q91⟩ := bx2 H9; replace H10 := keepO g4 H10; clear q100 q101; obtain ⟨q100, q101⟩ := bx2 H10))
      go_ret
      exact ⟨rfl, GW⟩
  · clear hK
    by_cases hX0 : X = 0
    · have PZ1 := PZ hX0
      have hz : iv neg X = 0 := by rw [hX0]; cases neg <;> rfl
      clear PZ PN hX
      go_enter Tryz.func3, Tryz.ntmps3
      go_wp2_with (first | (go_at_call 4; (with_reducible refine (OFB.out _).mono ?_); rintro r w1 ⟨rfl, rfl⟩) | (go_at_call 6; have _t := tok0; (with_reducible refine (PS.out _).mono ?_); rintro r w2 ⟨a9, n9, c9, rfl, W9, g2⟩; clear tok0; have tok1 : True := trivial; replace GW := GW.trans g2; replace W9 := W9.out; obtain ⟨H9, H10⟩ := blk2 w2 (.cells #[.bool neg, .slice a9 n9 c9] 26) (.cells #[.int .i64 0, .int .i64 0] 29); have gy9 : Gr w2 ((w2.alloc (.cells #[.bool neg, .slice a9 n9 c9] 26)).alloc (.cells #[.int .i64 0, .int .i64 0] 29)) := ((Gr.refl w2).alloc _).alloc _; obtain ⟨q90, q91⟩ := bx2 H9; obtain ⟨q100, q101⟩ := bx2 H10; replace GW := GW.trans gy9; replace W9 := W9.gr gy9; clear gy9; have hn9 := W9.n0.2 hz; subst hn9) | (go_at_call 7; (with_reducible refine (PK.out _).mono ?_); rintro r wp ⟨rfl, hwp⟩; rw [hwp]; clear hwp wp) | (go_at_call 6; have _t := tok1; (with_reducible refine (PZ1.out _).mono ?_); rintro r w3 ⟨rfl, g3⟩; clear tok1; have tok2 : True := trivial; replace GW := GW.trans g3; replace W9 := W9.gr g3; replace H9 := keepO g3 H9; clear q90 q91; obtain ⟨q90, q91⟩ := bx2 H9; replace H10 := keepO g3 H10; clear q100 q101; obtain ⟨q100, q101⟩ := bx2 H10; obtain ⟨H14, H15⟩ := blk2 w3 (.cells #[.bool false, .slice none 0 0] 26) (.cells #[.int .i64 9, .int .i64 1] 29); have gy14 : Gr w3 ((w3.alloc (.cells #[.bool false, .slice none 0 0] 26)).alloc (.cells #[.int .i64 9, .int .i64 1] 29)) := ((Gr.refl w3).alloc _).alloc _; obtain ⟨q140, q141⟩ := bx2 H14; obtain ⟨q150, q151⟩ := bx2 H15; replace GW := GW.trans gy14; replace W9 := W9.gr gy14; replace H9 := keepO gy14 H9; clear q90 q91; obtain ⟨q90, q91⟩ := bx2 H9; replace H10 := keepO gy14 H10; clear q100 q101; obtain ⟨q100, q101⟩ := bx2 H10; clear gy14) | (go_at_call 5; have _t := tok2; (with_reducible refine (AW.out _).mono ?_); rintro r w4 ⟨rfl, g4⟩; clear tok2; have tok3 : True := trivial; replace GW := GW.trans g4; replace W9 := W9.gr g4; replace H9 := keepO g4 H9; clear q90 q91; obtain ⟨q90, q91⟩ := bx2 H9; replace H10 := keepO g4 H10; clear q100 q101; obtain ⟨q100, q101⟩ := bx2 H10; replace H14 := keepO g4 H14; clear q140 q141; obtain ⟨q140, q141⟩ := bx2 H14; replace H15 := keepO g4 H15; clear q150 q151; obtain ⟨q150, q151⟩ := bx2 H15))
      go_ret
      exact ⟨rfl, GW⟩
    · obtain ⟨hY, PN1⟩ := PN hX0
      have hz : ¬ iv neg X = 0 := fun h => hX0 (by have := iv_abs neg X; rw [h] at this; exact this.symm)
      have HX : Hid ((iv neg X).natAbs < 2 ^ K) := by show _ < _; rw [iv_abs]; exact hX
      have HY : Hid ((iv neg (X * b + d)).natAbs < 2 ^ (K + 6)) := by show _ < _; rw [iv_abs]; exact hY
      have HB6 : Hid ((b : Int).natAbs < 2 ^ 6) := by
        show _ < _
        rw [Int.natAbs_natCast]
        omega
      have NO : Hid (∀ w1, Calls Tryz.prog 8 #[.int .u64 (d : Int)] w1 fun r w' => ∃ a n c, r = .returned (.slice a n c) ∧ Nz w' neg a n c 0 (iv neg d) 6 ∧ Gr w1 w') := fun w1 => by
        refine (natOfR d w1 (by omega)).mono ?_
        rintro r w' ⟨a, n, c, e1, e2, e3⟩
        exact ⟨a, n, c, e1, ⟨d, e2, by omega, by omega, sv0 neg d, by rw [iv_abs]; omega⟩, e3⟩
      clear PZ PN hX hY
      go_enter Tryz.func3, Tryz.ntmps3
      go_wp2_with (first | (go_at_call 4; (with_reducible refine (OFB.out _).mono ?_); rintro r w1 ⟨rfl, rfl⟩) | (go_at_call 6; have _t := tok0; (with_reducible refine (PS.out _).mono ?_); rintro r w2 ⟨a9, n9, c9, rfl, W9, g2⟩; clear tok0; have tok1 : True := trivial; replace GW := GW.trans g2; replace W9 := W9.out; obtain ⟨H9, H10⟩ := blk2 w2 (.cells #[.bool neg, .slice a9 n9 c9] 26) (.cells #[.int .i64 0, .int .i64 0] 29); have gy9 : Gr w2 ((w2.alloc (.cells #[.bool neg, .slice a9 n9 c9] 26)).alloc (.cells #[.int .i64 0, .int .i64 0] 29)) := ((Gr.refl w2).alloc _).alloc _; obtain ⟨q90, q91⟩ := bx2 H9; obtain ⟨q100, q101⟩ := bx2 H10; replace GW := GW.trans gy9; replace W9 := W9.gr gy9; clear gy9; have hn9 : ¬ (n9 : Int) = 0 := fun h => hz (W9.n0.1 (by omega))) | (go_at_call 7; (with_reducible refine (PK.out _).mono ?_); rintro r wp ⟨rfl, hwp⟩; rw [hwp]; clear hwp wp) | (go_at_call 6; have _t := tok1; (with_reducible refine (PN1.out _).mono ?_); rintro r w3 ⟨a14, n14, c14, rfl, W14, g3⟩; clear tok1; have tok2 : True := trivial; replace GW := GW.trans g3; replace W9 := W9.gr g3; replace H9 := keepO g3 H9; clear q90 q91; obtain ⟨q90, q91⟩ := bx2 H9; replace H10 := keepO g3 H10; clear q100 q101; obtain ⟨q100, q101⟩ := bx2 H10; replace W14 := W14.out; obtain ⟨H14, H15⟩ := blk2 w3 (.cells #[.bool neg, .slice a14 n14 c14] 26) (.cells #[.int .i64 0, .int .i64 0] 29); have gy14 : Gr w3 ((w3.alloc (.cells #[.bool neg, .slice a14 n14 c14] 26)).alloc (.cells #[.int .i64 0, .int .i64 0] 29)) := ((Gr.refl w3).alloc _).alloc _; obtain ⟨q140, q141⟩ := bx2 H14; obtain ⟨q150, q151⟩ := bx2 H15; replace GW := GW.trans gy14; replace W9 := W9.gr gy14; replace W14 := W14.gr gy14; replace H9 := keepO gy14 H9; clear q90 q91; obtain ⟨q90, q91⟩ := bx2 H9; replace H10 := keepO gy14 H10; clear q100 q101; obtain ⟨q100, q101⟩ := bx2 H10; clear gy14))
      generalize ((w3.alloc (.cells #[.bool neg, .slice a14 n14 c14] 26)).alloc (.cells #[.int .i64 0, .int .i64 0] 29)) = wr at *
      have HR : Hid (∀ t0 t1 t2 t3 t4 t5 t6 t7 t8 t10 t11 t12 t14 t15 t16 t17 t18 t19 t20 t21 t22 t23 t24 t25 t26 t27 t28 t29 t30 t31 t32 t33 t34 t35 t36 t37 t38 t39 t40 t41 t42 t43 t44 t45 t46 t47 t48 t49 t50 t51 t52 t53 t54 t55 t56 t57 t58 t59 t60 t61 t62 t63 t64 t65 t66 t67 t68 t69 t70 t71 t72 t73 t74 t75 t76 t77 t78 t79 t80 t81 t82 t83 t84 t85 t86 t87 t88 t89 t90 t91 t92 t93 t94 t95 t96 t97 t98 t99 t100 t101 t102 t103 t104 t105 t106 t107 t108 t109 t110 t111 t112 t113 t114 t115 t116 t117 t118 t119 t120 t121 t122 : Value, _) := fun t0 t1 t2 t3 t4 t5 t6 t7 t8 t10 t11 t12 t14 t15 t16 t17 t18 t19 t20 t21 t22 t23 t24 t25 t26 t27 t28 t29 t30 t31 t32 t33 t34 t35 t36 t37 t38 t39 t40 t41 t42 t43 t44 t45 t46 t47 t48 t49 t50 t51 t52 t53 t54 t55 t56 t57 t58 t59 t60 t61 t62 t63 t64 t65 t66 t67 t68 t69 t70 t71 t72 t73 t74 t75 t76 t77 t78 t79 t80 t81 t82 t83 t84 t85 t86 t87 t88 t89 t90 t91 t92 t93 t94 t95 t96 t97 t98 t99 t100 t101 t102 t103 t104 t105 t106 t107 t108 t109 t110 t111 t112 t113 t114 t115 t116 t117 t118 t119 t120 t121 t122 => regBp14 t0 t1 t2 t3 t4 t5 t6 t7 t8 t10 t11 t12 t14 t15 t16 t17 t18 t19 t20 t21 t22 t23 t24 t25 t26 t27 t28 t29 t30 t31 t32 t33 t34 t35 t36 t37 t38 t39 t40 t41 t42 t43 t44 t45 t46 t47 t48 t49 t50 t51 t52 t53 t54 t55 t56 t57 t58 t59 t60 t61 t62 t63 t64 t65 t66 t67 t68 t69 t70 t71 t72 t73 t74 t75 t76 t77 t78 t79 t80 t81 t82 t83 t84 t85 t86 t87 t88 t89 t90 t91 t92 t93 t94 t95 t96 t97 t98 t99 t100 t101 t102 t103 t104 t105 t106 t107 t108 t109 t110 t111 t112 t113 t114 t115 t116 t117 t118 t119 t120 t121 t122 w2.heap.size n9 c9 neg a9 d (iv neg d) 6 wr (fun w1 g => NO.out w1) (wrap_small hd36) (lt_of_get2 H9) ⟨q90, q91⟩
      refine Code.wp_mono ?_ (HR.out _ _ _ _ _ _ _ _ _ _ _ _ _ _ _ _ _ _ _ _ _ _ _ _ _ _ _ _ _ _ _ _ _ _ _ _ _ _ _ _ _ _ _ _ _ _ _ _ _ _ _ _ _ _ _ _ _ _ _ _ _ _ _ _ _ _ _ _ _ _ _ _ _ _ _ _ _ _ _ _ _ _ _ _ _ _ _ _ _ _ _ _ _ _ _ _ _ _ _ _ _ _ _ _ _ _ _ _ _ _ _ _ _ _ _ _ _ _ _ _ _)
      intro e a1' wb hR
      cases e <;> first | (exact False.elim hR) | skip
      obtain ⟨u97, u98, u99, u100, u101, u102, p16, a16, n16, c16, rfl, H16, N16, hb16, gb⟩ := hR
      clear HR
      replace GW := GW.trans gb
      replace W9 := W9.gr gb
      replace W14 := W14.gr gb
      replace H9 := keepO gb H9
      clear q90 q91
      obtain ⟨q90, q91⟩ := bx2 H9
      replace H10 := keepO gb H10
      clear q100 q101
      obtain ⟨q100, q101⟩ := bx2 H10
      replace H14 := keepO gb H14
      clear q140 q141
      obtain ⟨q140, q141⟩ := bx2 H14
      replace H15 := keepO gb H15
      clear q150 q151
      obtain ⟨q150, q151⟩ := bx2 H15
      clear gb
      obtain ⟨q160, q161, q162⟩ := bx3P H16
      go_wp2
      have HR : Hid (∀ t0 t1 t3 t4 t5 t6 t7 t8 t10 t11 t12 t13 t14 t15 t17 t18 t19 t20 t21 t22 t23 t24 t25 t26 t27 t28 t29 t30 t31 t32 t33 t34 t35 t36 t37 t38 t39 t40 t41 t42 t43 t44 t45 t46 t47 t48 t49 t50 t51 t52 t53 t54 t55 t56 t57 t58 t59 t60 t61 t62 t63 t64 t65 t66 t67 t68 t69 t70 t71 t72 t73 t74 t75 t76 t77 t78 t79 t80 t81 t82 t83 t84 t85 t86 t87 t88 t89 t90 t91 t92 t93 t94 t95 t96 t97 t98 t99 t100 t101 t102 t103 t104 t105 t106 t107 t108 t109 t110 t111 t112 t113 t114 t115 t116 t117 t118 t119 t120 t121 t122 : Value, _) := fun t0 t1 t3 t4 t5 t6 t7 t8 t10 t11 t12 t13 t14 t15 t17 t18 t19 t20 t21 t22 t23 t24 t25 t26 t27 t28 t29 t30 t31 t32 t33 t34 t35 t36 t37 t38 t39 t40 t41 t42 t43 t44 t45 t46 t47 t48 t49 t50 t51 t52 t53 t54 t55 t56 t57 t58 t59 t60 t61 t62 t63 t64 t65 t66 t67 t68 t69 t70 t71 t72 t73 t74 t75 t76 t77 t78 t79 t80 t81 t82 t83 t84 t85 t86 t87 t88 t89 t90 t91 t92 t93 t94 t95 t96 t97 t98 t99 t100 t101 t102 t103 t104 t105 t106 t107 t108 t109 t110 t111 t112 t113 t114 t115 t116 t117 t118 t119 t120 t121 t122 => regBp15 t0 t1 t3 t4 t5 t6 t7 t8 t10 t11 t12 t13 t14 t15 t17 t18 t19 t20 t21 t22 t23 t24 t25 t26 t27 t28 t29 t30 t31 t32 t33 t34 t35 t36 t37 t38 t39 t40 t41 t42 t43 t44 t45 t46 t47 t48 t49 t50 t51 t52 t53 t54 t55 t56 t57 t58 t59 t60 t61 t62 t63 t64 t65 t66 t67 t68 t69 t70 t71 t72 t73 t74 t75 t76 t77 t78 t79 t80 t81 t82 t83 t84 t85 t86 t87 t88 t89 t90 t91 t92 t93 t94 t95 t96 t97 t98 t99 t100 t101 t102 t103 t104 t105 t106 t107 t108 t109 t110 t111 t112 t113 t114 t115 t116 t117 t118 t119 t120 t121 t122 w2.heap.size n9 c9 p16 n16 c16 neg neg a9 a16 0 (b : Int) (iv neg X) (b : Int) (iv neg X * (b : Int)) (iv neg X * (b : Int) + iv neg d) K 6 (K + 6) (K + 6 + 6 + 1) wb (fun w1 g => nzInt neg a9 n9 c9 (iv neg X) K w1 (W9.gr g) HX.out) (fun w1 g => nzWhole (b : Int) 6 w1 (by omega) (by omega) HB6.out) (fun w1 s a n c e s' a' n' c' e' g h h' => nzTimes s s' a a' n n' c c' e e' (iv neg X) (b : Int) K 6 w1 h h' (by omega) (by omega)) (fun w1 s a n c e g h => nzPlus s neg a a16 n n16 c c16 e 0 (iv neg X * (b : Int)) (iv neg d) (K + 6) 6 w1 h (N16.gr g) (by omega) (by omega)) (lt_of_get2 H9) (lt_of_get2 H16) ⟨q90, q91, q160, q161, q162⟩
      refine Code.wp_mono ?_ (HR.out _ _ _ _ _ _ _ _ _ _ _ _ _ _ _ _ _ _ _ _ _ _ _ _ _ _ _ _ _ _ _ _ _ _ _ _ _ _ _ _ _ _ _ _ _ _ _ _ _ _ _ _ _ _ _ _ _ _ _ _ _ _ _ _ _ _ _ _ _ _ _ _ _ _ _ _ _ _ _ _ _ _ _ _ _ _ _ _ _ _ _ _ _ _ _ _ _ _ _ _ _ _ _ _ _ _ _ _ _ _ _ _ _ _ _ _ _ _ _ _)
      intro e a1' wc hR
      cases e <;> first | (exact False.elim hR) | skip
      obtain ⟨u103, u104, u105, u106, u107, u108, u109, p17, s17, a17, n17, c17, e17, rfl, H17, N17, hb17, gc⟩ := hR
      clear HR
      replace GW := GW.trans gc
      replace W9 := W9.gr gc
      replace W14 := W14.gr gc
      replace N16 := N16.gr gc
      replace H9 := keepO gc H9
      clear q90 q91
      obtain ⟨q90, q91⟩ := bx2 H9
      replace H10 := keepO gc H10
      clear q100 q101
      obtain ⟨q100, q101⟩ := bx2 H10
      replace H14 := keepO gc H14
      clear q140 q141
      obtain ⟨q140, q141⟩ := bx2 H14
      replace H15 := keepO gc H15
      clear q150 q151
      obtain ⟨q150, q151⟩ := bx2 H15
      replace H16 := keepO gc H16
      clear q160 q161 q162
      obtain ⟨q160, q161, q162⟩ := bx3P H16
      clear gc
      obtain ⟨q170, q171, q172⟩ := bx3P H17
      go_wp2
      have HR : Hid (∀ t0 t1 t2 t3 t4 t5 t6 t7 t8 t9 t10 t11 t12 t13 t16 t18 t19 t20 t21 t22 t23 t24 t25 t26 t27 t28 t29 t30 t31 t32 t33 t34 t35 t36 t37 t38 t39 t40 t41 t42 t43 t44 t45 t46 t47 t48 t49 t50 t51 t52 t53 t54 t55 t56 t57 t58 t59 t60 t61 t62 t63 t64 t65 t66 t67 t68 t69 t70 t71 t72 t73 t74 t75 t76 t77 t78 t79 t80 t81 t82 t83 t84 t85 t86 t87 t88 t89 t90 t91 t92 t93 t94 t95 t96 t97 t98 t99 t100 t101 t102 t103 t104 t105 t106 t107 t108 t109 t110 t111 t112 t113 t114 t115 t116 t117 t118 t119 t120 t121 t122 : Value, _) := fun t0 t1 t2 t3 t4 t5 t6 t7 t8 t9 t10 t11 t12 t13 t16 t18 t19 t20 t21 t22 t23 t24 t25 t26 t27 t28 t29 t30 t31 t32 t33 t34 t35 t36 t37 t38 t39 t40 t41 t42 t43 t44 t45 t46 t47 t48 t49 t50 t51 t52 t53 t54 t55 t56 t57 t58 t59 t60 t61 t62 t63 t64 t65 t66 t67 t68 t69 t70 t71 t72 t73 t74 t75 t76 t77 t78 t79 t80 t81 t82 t83 t84 t85 t86 t87 t88 t89 t90 t91 t92 t93 t94 t95 t96 t97 t98 t99 t100 t101 t102 t103 t104 t105 t106 t107 t108 t109 t110 t111 t112 t113 t114 t115 t116 t117 t118 t119 t120 t121 t122 => regBp16 t0 t1 t2 t3 t4 t5 t6 t7 t8 t9 t10 t11 t12 t13 t16 t18 t19 t20 t21 t22 t23 t24 t25 t26 t27 t28 t29 t30 t31 t32 t33 t34 t35 t36 t37 t38 t39 t40 t41 t42 t43 t44 t45 t46 t47 t48 t49 t50 t51 t52 t53 t54 t55 t56 t57 t58 t59 t60 t61 t62 t63 t64 t65 t66 t67 t68 t69 t70 t71 t72 t73 t74 t75 t76 t77 t78 t79 t80 t81 t82 t83 t84 t85 t86 t87 t88 t89 t90 t91 t92 t93 t94 t95 t96 t97 t98 t99 t100 t101 t102 t103 t104 t105 t106 t107 t108 t109 t110 t111 t112 t113 t114 t115 t116 t117 t118 t119 t120 t121 t122 w3.heap.size n14 c14 p17 n17 c17 neg s17 a14 a17 e17 (w3.heap.size + 1) (iv neg (X * b + d)) (K + 6) wc (fun w1 g => nzInt neg a14 n14 c14 (iv neg (X * b + d)) (K + 6) w1 (W14.gr g) HY.out) (fun w1 s a n c e g h => cmpZ (nzCompare s s17 a a17 n n17 c c17 e e17 (iv neg (X * b + d)) (iv neg X * (b : Int) + iv neg d) (K + 6) (K + 6 + 6 + 1) w1 h (N17.gr g) (by omega) (by omega)) (iv_step neg X b d)) (fun w1 g => AW.out w1) (lt_of_get2 H14) (lt_of_get2 H17) ⟨q140, q141, q170, q171, q172, q150, q151⟩
      refine Code.wp_mono ?_ (HR.out _ _ _ _ _ _ _ _ _ _ _ _ _ _ _ _ _ _ _ _ _ _ _ _ _ _ _ _ _ _ _ _ _ _ _ _ _ _ _ _ _ _ _ _ _ _ _ _ _ _ _ _ _ _ _ _ _ _ _ _ _ _ _ _ _ _ _ _ _ _ _ _ _ _ _ _ _ _ _ _ _ _ _ _ _ _ _ _ _ _ _ _ _ _ _ _ _ _ _ _ _ _ _ _ _ _ _ _ _ _ _ _ _ _ _ _ _ _ _ _)
      intro e a1' wd hR
      cases e <;> first | (exact False.elim hR) | skip
      obtain ⟨u110, u111, u112, u113, u114, u115, u116, u117, u118, u119, u120, u121, u122, rfl, gd⟩ := hR
      clear HR
      replace GW := GW.trans gd
      replace W9 := W9.gr gd
      replace W14 := W14.gr gd
      replace N16 := N16.gr gd
      replace N17 := N17.gr gd
      replace H9 := keepO gd H9
      clear q90 q91
      obtain ⟨q90, q91⟩ := bx2 H9
      replace H10 := keepO gd H10
      clear q100 q101
      obtain ⟨q100, q101⟩ := bx2 H10
      replace H14 := keepO gd H14
      clear q140 q141
      obtain ⟨q140, q141⟩ := bx2 H14
      replace H15 := keepO gd H15
      clear q150 q151
      obtain ⟨q150, q151⟩ := bx2 H15
      replace H16 := keepO gd H16
      clear q160 q161 q162
      obtain ⟨q160, q161, q162⟩ := bx3P H16
      replace H17 := keepO gd H17
      clear q170 q171 q172
      obtain ⟨q170, q171, q172⟩ := bx3P H17
      clear gd
      go_wp2
      go_ret
      exact ⟨rfl, GW⟩
end Go.Proofs.YtnjndegdhhmbaaaGreat
