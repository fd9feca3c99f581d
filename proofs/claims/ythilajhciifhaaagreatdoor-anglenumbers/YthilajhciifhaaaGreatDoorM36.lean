import Derived.Test.YthilajhciifhaaaGreatDoorM35
import Derived.Test.YthilajhciifhaaaGreatDoorM32
import Derived.LoopN
namespace Go.Proofs.YthilajhciifhaaaGreatDoor
open Go.RowKit
set_option linter.unusedVariables false
set_option linter.unusedSimpArgs false
set_option maxRecDepth 10000 in
set_option maxHeartbeats 8000000 in
theorem refTimes (s1 : Bool) (a1 : Option Addr) (n1 c1 : Nat) (e1 : Int) (s2 : Bool) (a2 : Option Addr) (n2 c2 : Nat) (e2 : Int) (s3 : Bool) (a3 : Option Addr) (n3 c3 : Nat) (e3 : Int) (s4 : Bool) (a4 : Option Addr) (n4 c4 : Nat) (e4 : Int) (A B C D : Int) (P L : Nat) (w : World) (u1 : Nu w s1 a1 n1 c1 e1 (A * Un P) L) (u2 : Nu w s2 a2 n2 c2 e2 (B * Un P) L) (u3 : Nu w s3 a3 n3 c3 e3 (C * Un P) L) (u4 : Nu w s4 a4 n4 c4 e4 (D * Un P) L) (hL : L ≤ 100000) (hP : P ≤ 50000) :
    Calls Tryz.prog 188 #[.agg #[.bool s1, .slice a1 n1 c1, .int .i64 e1, .bool s2, .slice a2 n2 c2, .int .i64 e2], .agg #[.bool s3, .slice a3 n3 c3, .int .i64 e3, .bool s4, .slice a4 n4 c4, .int .i64 e4], .int .i64 (P : Int)] w fun r w' => (∃ v, r = .returned v ∧ Pv w' v (((A * C - B * D) / ((2 ^ P : Nat) : Int)) * Un P) (((A * D + B * C) / ((2 ^ P : Nat) : Int)) * Un P) (8 * L + P + 2)) ∧ Gr w w' := by
  have TA : Hid _ := three_at w (.cells #[.bool s1, .slice a1 n1 c1, .int .i64 e1, .bool s2, .slice a2 n2 c2, .int .i64 e2] 213) (.cells #[.bool s3, .slice a3 n3 c3, .int .i64 e3, .bool s4, .slice a4 n4 c4, .int .i64 e4] 213) (.cells #[.bool false, .slice none 0 0, .int .i64 0, .bool false, .slice none 0 0, .int .i64 0] 213) _ rfl
  have cutv : ∀ X : Int, cutI (X * Un (P + P)) P false = X / ((2 ^ P : Nat) : Int) := fun X => by
    have := cutI_un X (P + P) P false (by omega) (by omega)
    rw [Nat.add_sub_cancel] at this
    simpa only [Bool.false_eq_true, if_false] using this
  have T : Hid (∀ w1 s5 a5 n5 c5 e5 s6 a6 n6 c6 e6 X Y, Nu w1 s5 a5 n5 c5 e5 (X * Un P) L → Nu w1 s6 a6 n6 c6 e6 (Y * Un P) L → Calls Tryz.prog 190 #[.agg #[.bool s5, .slice a5 n5 c5, .int .i64 e5], .agg #[.bool s6, .slice a6 n6 c6, .int .i64 e6]] w1 fun r w' => NuA w' r (X * Y * Un (P + P)) (2 * L) ∧ Gr w1 w') := fun w1 s5 a5 n5 c5 e5 s6 a6 n6 c6 e6 X Y x y => numTimes s5 s6 a5 a6 n5 n6 c5 c6 e5 e6 X Y P P L w1 x y (by omega) (by omega) (by omega)
  have LS : Hid (∀ w1 s5 a5 n5 c5 e5 s6 a6 n6 c6 e6 X Y, Nu w1 s5 a5 n5 c5 e5 (X * Un (P + P)) (2 * L) → Nu w1 s6 a6 n6 c6 e6 (Y * Un (P + P)) (2 * L) → Calls Tryz.prog 171 #[.agg #[.bool s5, .slice a5 n5 c5, .int .i64 e5], .agg #[.bool s6, .slice a6 n6 c6, .int .i64 e6]] w1 fun r w' => NuA w' r ((X - Y) * Un (P + P)) (8 * L + 1) ∧ Gr w1 w') := fun w1 s5 a5 n5 c5 e5 s6 a6 n6 c6 e6 X Y x y => by
    have := numLess s5 s6 a5 a6 n5 n6 c5 c6 e5 e6 _ _ (2 * L) w1 x y (by omega)
    rwa [← Int.sub_mul, show 4 * (2 * L) + 1 = 8 * L + 1 by omega] at this
  have PS : Hid (∀ w1 s5 a5 n5 c5 e5 s6 a6 n6 c6 e6 X Y, Nu w1 s5 a5 n5 c5 e5 (X * Un (P + P)) (2 * L) → Nu w1 s6 a6 n6 c6 e6 (Y * Un (P + P)) (2 * L) → Calls Tryz.prog 63 #[.agg #[.bool s5, .slice a5 n5 c5, .int .i64 e5], .agg #[.bool s6, .slice a6 n6 c6, .int .i64 e6]] w1 fun r w' => NuA w' r ((X + Y) * Un (P + P)) (8 * L + 1) ∧ Gr w1 w') := fun w1 s5 a5 n5 c5 e5 s6 a6 n6 c6 e6 X Y x y => by
    have := numPlus s5 s6 a5 a6 n5 n6 c5 c6 e5 e6 _ _ (2 * L) w1 x y (by omega)
    rwa [← Int.add_mul, show 4 * (2 * L) + 1 = 8 * L + 1 by omega] at this
  have CU : Hid (∀ w1 s5 a5 n5 c5 e5 X, Nu w1 s5 a5 n5 c5 e5 (X * Un (P + P)) (8 * L + 1) → Calls Tryz.prog 170 #[.agg #[.bool s5, .slice a5 n5 c5, .int .i64 e5], .int .i64 (IntKind.i64.wrap (-(P : Int))), .bool false] w1 fun r w' => NuA w' r ((X / ((2 ^ P : Nat) : Int)) * Un P) (8 * L + P + 2) ∧ Gr w1 w') := fun w1 s5 a5 n5 c5 e5 X x => by
    rw [show IntKind.i64.wrap (-(P : Int)) = -(P : Int) by rw [IntKind.wrap_i64]; omega]
    refine (numCut s5 a5 n5 c5 e5 _ P (8 * L + 1) w1 x (by omega) (by omega)).mono ?_
    rintro r w' ⟨⟨s, ad, n, cap, e, rfl, u, _⟩, g⟩
    rw [cutv] at u
    exact ⟨⟨_, _, _, _, _, rfl, u.more (by omega)⟩, g⟩
  have U1 := hide u1
  have U2 := hide u2
  have U3 := hide u3
  have U4 := hide u4
  clear u1 u2 u3 u4 cutv
  obtain ⟨x0, x1, x2, x3, x4, x5, -⟩ := out6 TA.out.1
  obtain ⟨y0, y1, y2, y3, y4, y5, -⟩ := out6 TA.out.2.1
  have G0 := hide TA.out.2.2.2.1
  have l0 := hide (lt_of_heap TA.out.1)
  have l1 := hide (lt_of_heap TA.out.2.1)
  go_enter Tryz.func188, Tryz.ntmps188
  go_wp2_with (fail)
  refine Code.wp_mono ?_ (reg188_1 _ _ _ _ _ _ _ _ _ _ _ _ _ _ _ _ _ _ _ _ _ _ _ _ _ _ _ _ _ _ _ _ _ _ _ _ _ _ w.heap.size (w.heap.size + 1) s1 a1 n1 c1 e1 s2 a2 n2 c2 e2 s3 a3 n3 c3 e3 s4 a4 n4 c4 e4 (A * C * Un (P + P)) (B * D * Un (P + P)) ((A * C - B * D) * Un (P + P)) L _ (fun w1 g => T.out w1 _ _ _ _ _ _ _ _ _ _ A C (U1.out.gr (G0.out.trans g)) (U3.out.gr (G0.out.trans g))) (fun w1 g => T.out w1 _ _ _ _ _ _ _ _ _ _ B D (U2.out.gr (G0.out.trans g)) (U4.out.gr (G0.out.trans g))) (fun w1 s5 a5 n5 c5 e5 s6 a6 n6 c6 e6 g x y => LS.out w1 _ _ _ _ _ _ _ _ _ _ (A * C) (B * D) x y) l0.out l1.out ⟨x0, x1, x2, x3, x4, x5, y0, y1, y2, y3, y4, y5⟩)
  intro ex ac W hR
  cases ex
  case normal =>
    obtain ⟨_, _, _, _, _, _, _, _, _, _, _, bS, s7, a7, n7, c7, e7, rfl, hb7, u7, lS, gW⟩ := hR
    have G1 := hide (G0.out.trans gW)
    go_wp2_with (fail)
    refine Code.wp_mono ?_ (reg188_2 _ _ _ _ _ _ _ _ _ _ _ _ _ _ _ _ _ _ _ _ _ _ _ _ _ _ _ _ _ _ _ _ _ _ _ _ _ _ w.heap.size (w.heap.size + 1) s1 a1 n1 c1 e1 s2 a2 n2 c2 e2 s3 a3 n3 c3 e3 s4 a4 n4 c4 e4 (A * D * Un (P + P)) (B * C * Un (P + P)) ((A * D + B * C) * Un (P + P)) L _ (fun w1 g => T.out w1 _ _ _ _ _ _ _ _ _ _ A D (U1.out.gr (G1.out.trans g)) (U4.out.gr (G1.out.trans g))) (fun w1 g => T.out w1 _ _ _ _ _ _ _ _ _ _ B C (U2.out.gr (G1.out.trans g)) (U3.out.gr (G1.out.trans g))) (fun w1 s5 a5 n5 c5 e5 s6 a6 n6 c6 e6 g x y => PS.out w1 _ _ _ _ _ _ _ _ _ _ (A * D) (B * C) x y) (Nat.lt_of_lt_of_le l0.out gW.size) (Nat.lt_of_lt_of_le l1.out gW.size) ⟨gW.keep x0, gW.keep x1, gW.keep x2, gW.keep x3, gW.keep x4, gW.keep x5, gW.keep y0, gW.keep y1, gW.keep y2, gW.keep y3, gW.keep y4, gW.keep y5⟩)
    intro ex ac V hV
    cases ex
    case normal =>
      obtain ⟨_, _, _, _, _, _, _, _, _, _, _, bT, s8, a8, n8, c8, e8, rfl, hb8, u8, lT, gV⟩ := hV
      have hb7' := gV.keepH hb7
      have u7' := u7.gr gV
      have G2 := hide (G1.out.trans gV)
      have sz := TA.out.2.2.2.2
      have ls' := lS
      rw [sz] at ls'
      have lt' : w.heap.size + 3 ≤ bT := by
        have h1 := gW.size
        rw [sz] at h1
        omega
      obtain ⟨i0, i1, i2⟩ := cells_ofT hb7'
      obtain ⟨j0, j1, j2⟩ := cells_ofT hb8
      go_wp2_with (fail)
      refine Code.wp_mono ?_ (reg188_3 _ _ _ _ _ _ _ _ _ _ _ _ _ _ _ _ _ _ _ _ _ _ _ _ _ _ _ _ _ _ _ _ _ _ _ _ bS bT (w.heap.size + 2) P s7 a7 n7 c7 e7 s8 a8 n8 c8 e8 (((A * C - B * D) / ((2 ^ P : Nat) : Int)) * Un P) (((A * D + B * C) / ((2 ^ P : Nat) : Int)) * Un P) (8 * L + P + 2) V (fun w1 g => CU.out w1 _ _ _ _ _ _ (u7'.gr g)) (fun w1 g => CU.out w1 _ _ _ _ _ _ (u8.gr g)) (by omega) (by omega) (gV.keepH (gW.keepH TA.out.2.2.1)) ⟨i0, i1, i2, j0, j1, j2⟩)
      intro ex ac X hX
      cases ex
      case normal =>
        obtain ⟨_, _, _, _, _, _, _, _, _, s9, a9, n9, c9, e9, s10, a10, n10, c10, e10, rfl, hbX, u9, u10, gX⟩ := hX
        obtain ⟨t0, t1, t2, t3, t4, t5, -⟩ := out6 hbX
        go_wp2
        refine bodyPost_ret (v := .agg #[.bool s9, .slice a9 n9 c9, .int .i64 e9, .bool s10, .slice a10 n10 c10, .int .i64 e10]) ?_ rfl ⟨⟨_, rfl, _, _, _, _, _, _, _, _, _, _, rfl, u9, u10⟩, gX.gr (by omega) G2.out⟩
        simp [results, Tryz.results188, go_sem, t0, t1, t2, t3, t4, t5]
      all_goals exact hX.elim
    all_goals exact hV.elim
  all_goals exact hR.elim
end Go.Proofs.YthilajhciifhaaaGreatDoor
namespace Go.Proofs.YthilajhciifhaaaGreatDoor
open Go.RowKit
set_option linter.unusedVariables false
set_option linter.unusedSimpArgs false
/-- a root of one and that of half the angle, in units of 2^-P -/
structure HalfR (P A R S : Nat) : Prop where
  small : A ≤ 2 ^ P
  r1 : R * R ≤ (2 ^ P + A) * 2 ^ (P - 1)
  r2 : (2 ^ P + A) * 2 ^ (P - 1) < (R + 1) * (R + 1)
  s1 : S * S ≤ (2 ^ P - A) * 2 ^ (P - 1)
  s2 : (2 ^ P - A) * 2 ^ (P - 1) < (S + 1) * (S + 1)
theorem sq_small {P R M : Nat} (hP1 : 1 ≤ P) (hM : M ≤ 2 * 2 ^ P) (r1 : R * R ≤ M * 2 ^ (P - 1)) : R ≤ 2 ^ P := by
  refine Nat.le_of_not_lt fun hlt => ?_
  have h2 := Nat.mul_le_mul_right (2 ^ (P - 1)) hM
  have h3 : 2 * 2 ^ P * 2 ^ (P - 1) = 2 ^ P * 2 ^ P := by
    obtain ⟨p, rfl⟩ : ∃ p, P = p + 1 := ⟨P - 1, by omega⟩
    rw [Nat.add_sub_cancel, Nat.pow_succ]
    generalize 2 ^ p = a
    rw [Nat.mul_comm 2 (a * 2), Nat.mul_assoc, Nat.mul_comm 2 a]
  have h4 : 2 ^ P * 2 ^ P < R * R := Nat.mul_lt_mul_of_lt_of_le hlt (Nat.le_of_lt hlt) (by omega)
  omega
theorem bl_unit {P R : Nat} (h : R ≤ 2 ^ P) : bl R ≤ P + 2 := bl_le_of_lt (by rw [Nat.pow_add]; have := Nat.two_pow_pos P; omega)
theorem refHalved (s1 : Bool) (a1 : Option Addr) (n1 c1 : Nat) (e1 : Int) (s2 : Bool) (a2 : Option Addr) (n2 c2 : Nat) (e2 : Int) (A P R S : Nat) (w : World) (u1 : Nu w s1 a1 n1 c1 e1 ((A : Int) * Un P) (P + 2)) (h : HalfR P A R S) (hP1 : 10 ≤ P) (hP : P ≤ 20000) :
    Calls Tryz.prog 187 #[.agg #[.bool s1, .slice a1 n1 c1, .int .i64 e1, .bool s2, .slice a2 n2 c2, .int .i64 e2], .int .i64 (P : Int)] w fun r w' => (∃ v, r = .returned v ∧ Pv w' v ((R : Int) * Un P) ((S : Int) * Un P) (P + 2)) ∧ Gr w w' := by
  have hA := h.small
  have q1 : ((2 ^ P : Nat) : Int) * Un P + (A : Int) * Un P = ((2 ^ P + A : Nat) : Int) * Un P := by rw [← Int.add_mul, Int.natCast_add]
  have q2 : ((2 ^ P : Nat) : Int) * Un P - (A : Int) * Un P = ((2 ^ P - A : Nat) : Int) * Un P := by rw [← Int.sub_mul, Int.ofNat_sub hA]
  have hR := bl_unit (sq_small (by omega) (show 2 ^ P + A ≤ 2 * 2 ^ P by omega) h.r1)
  have hS := bl_unit (sq_small (by omega) (show 2 ^ P - A ≤ 2 * 2 ^ P by omega) h.s1)
  refine halvedW s1 a1 n1 c1 e1 s2 a2 n2 c2 e2 P ((A : Int) * Un P) (((2 ^ P : Nat) : Int) * Un P) (((2 ^ P + A : Nat) : Int) * Un P) (((2 ^ P - A : Nat) : Int) * Un (P + 1)) (((2 ^ P - A : Nat) : Int) * Un P) (((2 ^ P + A : Nat) : Int) * Un (P + 1)) _ _ (P + 2) (P + 2) w u1 (fun w1 g => ?_) (fun w1 s ad n cap e g u => ?_) (fun w1 s ad n cap e g u => ?_) (fun w1 s ad n cap e g u => ?_) (fun w1 s ad n cap e g u => ?_) (fun w1 s ad n cap e g u => ?_) (fun w1 s ad n cap e g u => ?_)
  · refine (numWhole 1 w1 (by omega)).mono ?_
    rintro r w' ⟨⟨s, ad, n, cap, e, rfl, u⟩, g'⟩
    refine ⟨⟨_, _, _, _, _, rfl, ?_⟩, g'⟩
    have := u.more (show 10 ≤ P + 2 by omega)
    rwa [show ((1 : Nat) : Int) * Un 0 = ((2 ^ P : Nat) : Int) * Un P by rw [show ((1 : Nat) : Int) = 1 from rfl, Int.one_mul, Un_split (P := 0) (Q := P) (by omega) (by omega), Nat.sub_zero]] at this
  · have := numPlus s s1 ad a1 n n1 cap c1 e e1 _ _ (P + 2) w1 u (u1.gr g) (by omega)
    rwa [q1] at this
  · have := numLess s s1 ad a1 n n1 cap c1 e e1 _ _ (P + 2) w1 u (u1.gr g) (by omega)
    rwa [q2] at this
  · exact numScaled s ad n cap e _ P 1 (4 * (P + 2) + 1) w1 u (by omega) (by omega)
  · exact numScaled s ad n cap e _ P 1 (4 * (P + 2) + 1) w1 u (by omega) (by omega)
  · exact refRoot s ad n cap e (2 ^ P + A) P (P + 1) R (4 * (P + 2) + 2) (P + 2) w1 u (by omega) (by omega) hP (by rw [show 2 * P - (P + 1) = P - 1 by omega]; exact h.r1) (by rw [show 2 * P - (P + 1) = P - 1 by omega]; exact h.r2) hR (by omega) (by omega)
  · exact refRoot s ad n cap e (2 ^ P - A) P (P + 1) S (4 * (P + 2) + 2) (P + 2) w1 u (by omega) (by omega) hP (by rw [show 2 * P - (P + 1) = P - 1 by omega]; exact h.s1) (by rw [show 2 * P - (P + 1) = P - 1 by omega]; exact h.s2) hS (by omega) (by omega)
end Go.Proofs.YthilajhciifhaaaGreatDoor
namespace Go.Proofs.YthilajhciifhaaaGreatDoor
open Go.RowKit
set_option linter.unusedVariables false
set_option linter.unusedSimpArgs false
set_option maxRecDepth 10000 in
set_option maxHeartbeats 8000000 in
theorem refAt (m P : Nat) (F G : Nat → Nat) (w : World) (hF : F 0 = 0) (hG : G 0 = 2 ^ P) (hst : ∀ j, j < m → HalfR P (F j) (F (j + 1)) (G (j + 1))) (hm : m ≤ 12) (hP1 : 10 ≤ P) (hP : P ≤ 10000) :
    Calls Tryz.prog 181 #[.int .i64 ((m : Int) + 2), .int .i64 1, .int .i64 (P : Int)] w fun r w' => (∃ v, r = .returned v ∧ Pv w' v ((F m : Int) * Un P) ((G m : Int) * Un P) (8 * (P + 2) + P + 2)) ∧ Gr w w' := by
  have WH : Hid (∀ w1 v, v ≤ 1 → Calls Tryz.prog 128 #[.int .i64 ((v : Nat) : Int)] w1 fun r w' => NuA w' r (((v * 2 ^ P : Nat) : Int) * Un P) (P + 2) ∧ Gr w1 w') := fun w1 v hv => by
    refine (numWhole v w1 (by omega)).mono ?_
    rintro r w' ⟨⟨s, ad, n, cap, e, rfl, u⟩, g'⟩
    refine ⟨⟨_, _, _, _, _, rfl, ?_⟩, g'⟩
    have := u.more (show 10 ≤ P + 2 by omega)
    rwa [Un_split (P := 0) (Q := P) (by omega) (by omega), Nat.sub_zero, ← Int.mul_assoc, ← Int.natCast_mul] at this
  have W0 : Hid (∀ w1, Calls Tryz.prog 128 #[.int .i64 0] w1 fun r w' => NuA w' r (((0 : Nat) : Int) * Un P) (P + 2) ∧ Gr w1 w') := fun w1 => by
    have := WH.out w1 0 (by omega)
    rwa [Nat.zero_mul] at this
  have W1 : Hid (∀ w1, Calls Tryz.prog 128 #[.int .i64 1] w1 fun r w' => NuA w' r (((2 ^ P : Nat) : Int) * Un P) (P + 2) ∧ Gr w1 w') := fun w1 => by
    have := WH.out w1 1 (by omega)
    rwa [Nat.one_mul] at this
  have HV : Hid (∀ j, j < m → ∀ w1 s1 a1 n1 c1 e1 s2 a2 n2 c2 e2, Nu w1 s1 a1 n1 c1 e1 ((F j : Int) * Un P) (P + 2) → Calls Tryz.prog 187 #[.agg #[.bool s1, .slice a1 n1 c1, .int .i64 e1, .bool s2, .slice a2 n2 c2, .int .i64 e2], .int .i64 (P : Int)] w1 fun r w' => (∃ v, r = .returned v ∧ Pv w' v ((F (j + 1) : Int) * Un P) ((G (j + 1) : Int) * Un P) (P + 2)) ∧ Gr w1 w') := fun j hj w1 s1 a1 n1 c1 e1 s2 a2 n2 c2 e2 u => refHalved s1 a1 n1 c1 e1 s2 a2 n2 c2 e2 (F j) P _ _ w1 u (hst j hj) hP1 (by omega)
  have kb0 : Hid _ := new_at w (.cells #[.bool false, .slice none 0 0, .int .i64 0, .bool false, .slice none 0 0, .int .i64 0] 213)
  have g0 : Hid _ := (Gr.refl w).alloc (.cells #[.bool false, .slice none 0 0, .int .i64 0, .bool false, .slice none 0 0, .int .i64 0] 213)
  have hF' := hide hF
  have hG' := hide hG
  clear hst WH hF hG
  go_enter Tryz.func181, Tryz.ntmps181
  go_wp2_with (first
    | (go_at_call 128; (with_reducible refine (W0.out _).mono ?_); rintro r w1 ⟨⟨s1, a1, n1, c1, e1, rfl, u1⟩, g1⟩)
    | (go_at_call 128; (with_reducible refine (W1.out _).mono ?_); rintro r w2 ⟨⟨s2, a2, n2, c2, e2, rfl, u2⟩, g2⟩))
  have ga := (Gr.refl w2).alloc (.cells #[.bool s1, .slice a1 n1 c1, .int .i64 e1, .bool s2, .slice a2 n2 c2, .int .i64 e2] 213)
  have hz0 := new_at w2 (.cells #[.bool s1, .slice a1 n1 c1, .int .i64 e1, .bool s2, .slice a2 n2 c2, .int .i64 e2] 213)
  have A0 : Hid (Gr w (w2.alloc (.cells #[.bool s1, .slice a1 n1 c1, .int .i64 e1, .bool s2, .slice a2 n2 c2, .int .i64 e2] 213)) ∧ (w2.alloc (.cells #[.bool s1, .slice a1 n1 c1, .int .i64 e1, .bool s2, .slice a2 n2 c2, .int .i64 e2] 213)).heap[w.heap.size]? = some (.cells #[.bool false, .slice none 0 0, .int .i64 0, .bool false, .slice none 0 0, .int .i64 0] 213)) := ⟨((g0.out.trans g1).trans g2).trans ga, ga.keepH (g2.keepH (g1.keepH kb0.out))⟩
  have U1 : Hid (Nu (w2.alloc (.cells #[.bool s1, .slice a1 n1 c1, .int .i64 e1, .bool s2, .slice a2 n2 c2, .int .i64 e2] 213)) s1 a1 n1 c1 e1 ((F 0 : Int) * Un P) (P + 2)) := by rw [hF'.out]; exact (u1.gr g2).gr ga
  have U2 : Hid (Nu (w2.alloc (.cells #[.bool s1, .slice a1 n1 c1, .int .i64 e1, .bool s2, .slice a2 n2 c2, .int .i64 e2] 213)) s2 a2 n2 c2 e2 ((G 0 : Int) * Un P) (P + 2)) := by rw [hG'.out]; exact u2.gr ga
  have lz : w.heap.size ≠ w2.heap.size := Nat.ne_of_lt (lt_of_heap (g2.keepH (g1.keepH kb0.out)))
  have lz' : Hid (w.heap.size ≠ w2.heap.size ∧ w.heap.size ≤ w2.heap.size) := ⟨lz, Nat.le_of_lt (lt_of_heap (g2.keepH (g1.keepH kb0.out)))⟩
  clear u1 u2 ga g1 g2 lz
  generalize w2.alloc (.cells #[.bool s1, .slice a1 n1 c1, .int .i64 e1, .bool s2, .slice a2 n2 c2, .int .i64 e2] 213) = w3 at *
  generalize w2.heap.size = bz at *
  go_loopw [8] (fun i wr => ∃ (j : Nat) (s3 : Bool) (a3 : Option Addr) (n3 c3 : Nat) (e3 : Int) (s4 : Bool) (a4 : Option Addr) (n4 c4 : Nat) (e4 : Int), j ≤ m ∧ i = .int .i64 ((j : Int) + 2) ∧ wr.heap[bz]? = some (.cells #[.bool s3, .slice a3 n3 c3, .int .i64 e3, .bool s4, .slice a4 n4 c4, .int .i64 e4] 213) ∧ Hid (Nu wr s3 a3 n3 c3 e3 ((F j : Int) * Un P) (P + 2)) ∧ Hid (Nu wr s4 a4 n4 c4 e4 ((G j : Int) * Un P) (P + 2)) ∧ Hid (Gr w wr ∧ wr.heap[w.heap.size]? = some (.cells #[.bool false, .slice none 0 0, .int .i64 0, .bool false, .slice none 0 0, .int .i64 0] 213))) (fun i _ => m + 2 - (intOf i).toNat)
  case atStart => exact ⟨0, _, _, _, _, _, _, _, _, _, _, by omega, rfl, hz0, U1, U2, A0⟩
  case round =>
    obtain ⟨j, s3, a3, n3, c3, e3, s4, a4, n4, c4, e4, hj, rfl, hz, v3, v4, hA⟩ := hrel
    obtain ⟨x0, x1, x2, x3, x4, x5, y0, y1, y2, y3, y4, y5⟩ := out6 hz
    by_cases hlt : j < m
    · have i1 : (j : Int) + 2 < (m : Int) + 2 := by omega
      go_wp2_with (first | (go_at_call 187; (with_reducible refine (HV.out j hlt _ _ _ _ _ _ _ _ _ _ _ v3.out).mono ?_); rintro r w5 ⟨⟨_, rfl, s5, a5, n5, c5, e5, s6, a6, n6, c6, e6, rfl, v5, v6⟩, g5⟩; have hz5 := g5.keepH hz; obtain ⟨x0', x1', x2', x3', x4', x5', y0', y1', y2', y3', y4', y5'⟩ := out6 hz5))
      have nr := NoR.of hz5 rfl
      go_roundw
      case rel => exact ⟨j + 1, _, _, _, _, _, _, _, _, _, _, by omega, by go_num, putB6 hz5 _ _ _ _ _ _, v5.gx nr (gx6 _ _ _ _ _ _ _ _), v6.gx nr (gx6 _ _ _ _ _ _ _ _), (gx6 _ _ _ _ _ _ _ _).gr lz'.out.2 (hA.out.1.trans g5), (gx6 _ _ _ _ _ _ _ _).keepH lz'.out.1 (g5.keepH hA.out.2)⟩
      case measure => simp only [intOf]; omega
    · have hjm : j = m := by omega
      subst hjm
      clear x0 x1 x2 x3 x4 x5 y0 y1 y2 y3 y4 y5
      go_wp2_with (first
        | (go_at_call 128; (with_reducible refine (W1.out _).mono ?_); rintro r w6 ⟨⟨s6, a6, n6, c6, e6, rfl, u6⟩, g6⟩)
        | (go_at_call 128; (with_reducible refine (W0.out _).mono ?_); rintro r w7 ⟨⟨s7, a7, n7, c7, e7, rfl, u7⟩, g7⟩))
      have ga := (Gr.refl w7).alloc (.cells #[.bool s6, .slice a6 n6 c6, .int .i64 e6, .bool s7, .slice a7 n7 c7, .int .i64 e7] 213)
      have h9 := new_at w7 (.cells #[.bool s6, .slice a6 n6 c6, .int .i64 e6, .bool s7, .slice a7 n7 c7, .int .i64 e7] 213)
      have hz9 := ga.keepH (g7.keepH (g6.keepH hz))
      have ne9 : Hid (bz ≠ w7.heap.size) := Nat.ne_of_lt (lt_of_heap (g7.keepH (g6.keepH hz)))
      have ho9 := ga.keepH (g7.keepH (g6.keepH hA.out.2))
      have neo : Hid (w.heap.size ≠ w7.heap.size ∧ w.heap.size ≤ w7.heap.size) := ⟨Nat.ne_of_lt (lt_of_heap (g7.keepH (g6.keepH hA.out.2))), Nat.le_of_lt (lt_of_heap (g7.keepH (g6.keepH hA.out.2)))⟩
      have G9 : Hid (Gr w _) := ((hA.out.1.trans g6).trans g7).trans ga
      have q6 := (u6.gr g7).gr ga
      have q7 := u7.gr ga
      have q3 := ((v3.out.gr g6).gr g7).gr ga
      have q4 := ((v4.out.gr g6).gr g7).gr ga
      generalize w7.alloc (.cells #[.bool s6, .slice a6 n6 c6, .int .i64 e6, .bool s7, .slice a7 n7 c7, .int .i64 e7] 213) = w9 at *
      generalize w7.heap.size = b9 at *
      obtain ⟨x0, x1, x2, x3, x4, x5, y0, y1, y2, y3, y4, y5⟩ := out6 h9
      obtain ⟨z0, z1, z2, z3, z4, z5, -⟩ := out6 hz9
      refine wp_loop_rounds 2 ?_
      rw [rounds_succ]
      go_wp2_with (fail)
      have p2 : ((2 ^ P : Nat) : Int) ≠ 0 := Int.ne_of_gt (Int.ofNat_lt.2 (Nat.two_pow_pos P))
      have r1 : (((2 ^ P : Nat) : Int) * (F j : Int) - ((0 : Nat) : Int) * (G j : Int)) / ((2 ^ P : Nat) : Int) = (F j : Int) := by
        rw [show ((0 : Nat) : Int) = 0 from rfl, Int.zero_mul, Int.sub_zero, Int.mul_ediv_cancel_left _ p2]
      have r2 : (((2 ^ P : Nat) : Int) * (G j : Int) + ((0 : Nat) : Int) * (F j : Int)) / ((2 ^ P : Nat) : Int) = (G j : Int) := by
        rw [show ((0 : Nat) : Int) = 0 from rfl, Int.zero_mul, Int.add_zero, Int.mul_ediv_cancel_left _ p2]
      have T1 := refTimes s6 a6 n6 c6 e6 s7 a7 n7 c7 e7 s3 a3 n3 c3 e3 s4 a4 n4 c4 e4 _ _ _ _ P (P + 2) w9 q6 q7 q3 q4 (by omega) (by omega)
      rw [r1, r2] at T1
      clear r1 r2 p2
      refine T1.mono ?_
      rintro r w10 ⟨⟨_, rfl, s8, a8, n8, c8, e8, s9, a9, n9, c9, e9, rfl, u8, u9⟩, g10⟩
      have h10 := g10.keepH h9
      have nr10 := NoR.of h10 rfl
      have gx := gx6 w10 b9 (.bool s8) (.slice a8 n8 c8) (.int .i64 e8) (.bool s9) (.slice a9 n9 c9) (.int .i64 e9)
      have hz11 := gx.keepH ne9.out (g10.keepH hz9)
      have ho11 := gx.keepH neo.out.1 (g10.keepH ho9)
      have h11 := putB6 h10 (.bool s8) (.slice a8 n8 c8) (.int .i64 e8) (.bool s9) (.slice a9 n9 c9) (.int .i64 e9)
      have G11 : Hid (Gr w _) := gx.gr neo.out.2 (G9.out.trans g10)
      have v8 := u8.gx nr10 gx
      have v9 := u9.gx nr10 gx
      have t3 := (q3.gr g10).gx nr10 gx
      have t4 := (q4.gr g10).gx nr10 gx
      clear x0 x1 x2 x3 x4 x5 y0 y1 y2 y3 y4 y5 z0 z1 z2 z3 z4 z5 gx
      obtain ⟨x0, x1, x2, x3, x4, x5, y0, y1, y2, y3, y4, y5⟩ := out6 h10
      obtain ⟨z0, z1, z2, z3, z4, z5, -⟩ := out6 hz11
      go_wp2_with (fail)
      clear x0 x1 x2 x3 x4 x5 y0 y1 y2 y3 y4 y5 z0 z1 z2 z3 z4 z5 T1
      generalize ((((((w10.setCell ⟨b9, 0, none⟩ (.bool s8)).setCell ⟨b9, 1, none⟩ (.slice a8 n8 c8)).setCell ⟨b9, 2, none⟩ (.int .i64 e8)).setCell ⟨b9, 3, none⟩ (.bool s9)).setCell ⟨b9, 4, none⟩ (.slice a9 n9 c9)).setCell ⟨b9, 5, none⟩ (.int .i64 e9)) = w11 at *
      refine (refTimes s3 a3 n3 c3 e3 s4 a4 n4 c4 e4 s3 a3 n3 c3 e3 s4 a4 n4 c4 e4 _ _ _ _ P (P + 2) w11 t3 t4 t3 t4 (by omega) (by omega)).mono ?_
      rintro r w12 ⟨⟨_, rfl, s10, a10, n10, c10, e10, s11, a11, n11, c11, e11, rfl, u10, u11⟩, g12⟩
      have hz12 := g12.keepH hz11
      have nr12 := NoR.of hz12 rfl
      have gx := gx6 w12 bz (.bool s10) (.slice a10 n10 c10) (.int .i64 e10) (.bool s11) (.slice a11 n11 c11) (.int .i64 e11)
      have h13 := gx.keepH (Ne.symm ne9.out) (g12.keepH h11)
      have ho13 := gx.keepH lz'.out.1 (g12.keepH ho11)
      have G13 : Hid (Gr w _) := gx.gr lz'.out.2 (G11.out.trans g12)
      have y8 := (v8.gr g12).gx nr12 gx
      have y9 := (v9.gr g12).gx nr12 gx
      clear gx
      obtain ⟨x0, x1, x2, x3, x4, x5, y0, y1, y2, y3, y4, y5⟩ := out6 hz12
      go_wp2_with (fail)
      clear x0 x1 x2 x3 x4 x5 y0 y1 y2 y3 y4 y5
      generalize ((((((w12.setCell ⟨bz, 0, none⟩ (.bool s10)).setCell ⟨bz, 1, none⟩ (.slice a10 n10 c10)).setCell ⟨bz, 2, none⟩ (.int .i64 e10)).setCell ⟨bz, 3, none⟩ (.bool s11)).setCell ⟨bz, 4, none⟩ (.slice a11 n11 c11)).setCell ⟨bz, 5, none⟩ (.int .i64 e11)) = w13 at *
      rw [rounds_succ]
      have nro := NoR.of ho13 rfl
      obtain ⟨x0, x1, x2, x3, x4, x5, -⟩ := out6 h13
      obtain ⟨z0, z1, z2, z3, z4, z5, y0, y1, y2, y3, y4, y5⟩ := out6 ho13
      go_wp2
      refine bodyPost_ret (v := .agg #[.bool s8, .slice a8 n8 c8, .int .i64 e8, .bool s9, .slice a9 n9 c9, .int .i64 e9]) ?_ rfl ⟨⟨_, rfl, _, _, _, _, _, _, _, _, _, _, rfl, y8.gx nro (gx6 _ _ _ _ _ _ _ _), y9.gx nro (gx6 _ _ _ _ _ _ _ _)⟩, (gx6 _ _ _ _ _ _ _ _).gr (Nat.le_refl _) G13.out⟩
      simp [results, Tryz.results181, go_sem, z0, z1, z2, z3, z4, z5]
end Go.Proofs.YthilajhciifhaaaGreatDoor
namespace Go.Proofs.YthilajhciifhaaaGreatDoor
open Go.RowKit
set_option linter.unusedVariables false
set_option linter.unusedSimpArgs false
theorem out5 {w : World} {B : Nat} {v0 v1 v2 v3 v4 : Value} {T : TypeId} (h : w.heap[B]? = some (.cells #[v0, v1, v2, v3, v4] T)) : w.cell? ⟨B, 0, none⟩ = some v0 ∧ w.cell? ⟨B, 1, none⟩ = some v1 ∧ w.cell? ⟨B, 2, none⟩ = some v2 ∧ w.cell? ⟨B, 3, none⟩ = some v3 ∧ w.cell? ⟨B, 4, none⟩ = some v4 := ⟨by simp [World.cell?, h], by simp [World.cell?, h], by simp [World.cell?, h], by simp [World.cell?, h], by simp [World.cell?, h]⟩
theorem two_any (w : World) (o1 o2 : Obj) (W0 : World) (h : W0 = (w.alloc o1).alloc o2) : W0.heap[w.heap.size]? = some o1 ∧ W0.heap[w.heap.size + 1]? = some o2 ∧ Gr w W0 := by
  subst h
  exact ⟨((Gr.refl _).alloc o2).keepH (new_at w o1), second_block w o1 o2, gr2 _ _⟩
set_option maxRecDepth 10000 in
set_option maxHeartbeats 4000000 in
theorem refSize (ng wh : Bool) (nn stp od P V U : Int) (L : Nat) (w : World)
    (AT : Hid (∀ w1, Gr w w1 → Calls Tryz.prog 181 #[.int .i64 od, .int .i64 stp, .int .i64 P] w1 fun r w' => (∃ v, r = .returned v ∧ Pv w' v V U L) ∧ Gr w1 w')) :
    Calls Tryz.prog 168 #[.agg #[.bool ng, .bool true, .bool wh, .int .i64 nn, .int .i64 stp], .int .i64 od, .int .i64 P] w fun r w' => NuA w' r U L ∧ Gr w w' := by
  have TA : Hid _ := two_any w (.cells #[.bool ng, .bool true, .bool wh, .int .i64 nn, .int .i64 stp] 117) (.cells #[.bool false, .slice none 0 0, .int .i64 0] 84) _ rfl
  obtain ⟨f0, f1, f2, f3, f4⟩ := out5 TA.out.1
  go_enter Tryz.func168, Tryz.ntmps168
  go_wp2_with (first | (go_at_call 181; (with_reducible refine (AT.out _ TA.out.2.2).mono ?_); rintro r w1 ⟨⟨_, rfl, s1, a1, n1, c1, e1, s2, a2, n2, c2, e2, rfl, u1, u2⟩, g1⟩; have ga := (Gr.refl w1).alloc (.cells #[.bool s1, .slice a1 n1 c1, .int .i64 e1, .bool s2, .slice a2 n2 c2, .int .i64 e2] 213); have t1 := ga.keepH (g1.keepH TA.out.1); have k1 := ga.keepH (g1.keepH TA.out.2.1); have nr := NoR.of k1 rfl; obtain ⟨h0, h1, h2, h3, h4⟩ := out5 t1; obtain ⟨y0, y1, y2⟩ := cells_ofT k1; obtain ⟨z0, z1, z2⟩ := open_ofT k1))
  refine bodyPost_ret (v := .agg #[.bool s2, .slice a2 n2 c2, .int .i64 e2]) ?_ rfl ⟨⟨_, _, _, _, _, rfl, (u2.gr ga).gx nr (gx3 _ _ _ _ _)⟩, (gx3 _ _ _ _ _).gr (Nat.le_succ _) ((TA.out.2.2.trans g1).trans ga)⟩
  simp [results, Tryz.results168, go_sem, y0, y1, y2]
set_option maxRecDepth 10000 in
set_option maxHeartbeats 8000000 in
/-- Floor, where the first round ends it -/
theorem refFloor (ng si wh : Bool) (nn stp od : Int) (b L : Nat) (C : Int) (w : World) (hb : b ≤ 2048) (hL : L ≤ 30000)
    (SZ : Hid (∀ w1, Gr w w1 → Calls Tryz.prog 168 #[.agg #[.bool ng, .bool si, .bool wh, .int .i64 nn, .int .i64 stp], .int .i64 od, .int .i64 ((b : Int) + 80)] w1 fun r w' => NuA w' r (C * Un (b + 80)) (L + 3000) ∧ Gr w1 w'))
    (heq : cutI ((C - 2 ^ 40) * Un (b + 80)) b false = cutI ((C + 2 ^ 40) * Un (b + 80)) b false) :
    Calls Tryz.prog 129 #[.agg #[.bool ng, .bool si, .bool wh, .int .i64 nn, .int .i64 stp], .int .i64 od, .int .i64 (b : Int)] w fun r w' => NuA w' r (cutI ((C - 2 ^ 40) * Un (b + 80)) b false * Un b) 200000 ∧ Gr w w' := by
  have TA : Hid _ := two_any w (.cells #[.bool ng, .bool si, .bool wh, .int .i64 nn, .int .i64 stp] 117) (.cells #[.bool false, .slice none 0 0, .int .i64 0] 84) _ rfl
  obtain ⟨f0, f1, f2, f3, f4⟩ := out5 TA.out.1
  have WH : Hid (∀ w1, Calls Tryz.prog 128 #[.int .i64 1] w1 fun r w' => NuA w' r (1 * Un 0) 10 ∧ Gr w1 w') := fun w1 => numWhole 1 w1 (by omega)
  have SC : Hid (∀ w1 s ad n cap e, Nu w1 s ad n cap e (1 * Un 0) 10 → Calls Tryz.prog 169 #[.agg #[.bool s, .slice ad n cap, .int .i64 e], .int .i64 (40 - ((b : Int) + 80))] w1 fun r w' => NuA w' r (2 ^ 40 * Un (b + 80)) (L + 3000) ∧ Gr w1 w') := fun w1 s ad n cap e u => by
    rw [show 40 - ((b : Int) + 80) = -((b + 40 : Nat) : Int) by omega]
    refine (numScaled s ad n cap e 1 0 (b + 40) 10 w1 u (by omega) (by omega)).mono ?_
    rintro r w' ⟨⟨s, ad, n, cap, e, rfl, u⟩, g'⟩
    refine ⟨⟨_, _, _, _, _, rfl, ?_⟩, g'⟩
    have := u.more (show 10 + (b + 40) ≤ L + 3000 by omega)
    rwa [Un_split (P := 0 + (b + 40)) (Q := b + 80) (by omega) (by omega), show b + 80 - (0 + (b + 40)) = 40 by omega, Int.one_mul] at this
  have LS : Hid (∀ w1 s1 a1 n1 c1 e1 s2 a2 n2 c2 e2, Nu w1 s1 a1 n1 c1 e1 (C * Un (b + 80)) (L + 3000) → Nu w1 s2 a2 n2 c2 e2 (2 ^ 40 * Un (b + 80)) (L + 3000) → Calls Tryz.prog 171 #[.agg #[.bool s1, .slice a1 n1 c1, .int .i64 e1], .agg #[.bool s2, .slice a2 n2 c2, .int .i64 e2]] w1 fun r w' => NuA w' r ((C - 2 ^ 40) * Un (b + 80)) 140000 ∧ Gr w1 w') := fun w1 s1 a1 n1 c1 e1 s2 a2 n2 c2 e2 x y => by
    refine (numLess s1 s2 a1 a2 n1 n2 c1 c2 e1 e2 _ _ (L + 3000) w1 x y (by omega)).mono ?_
    rintro r w' ⟨⟨s, ad, n, cap, e, rfl, u⟩, g'⟩
    exact ⟨⟨_, _, _, _, _, rfl, by rw [Int.sub_mul]; exact u.more (by omega)⟩, g'⟩
  have PS : Hid (∀ w1 s1 a1 n1 c1 e1 s2 a2 n2 c2 e2, Nu w1 s1 a1 n1 c1 e1 (C * Un (b + 80)) (L + 3000) → Nu w1 s2 a2 n2 c2 e2 (2 ^ 40 * Un (b + 80)) (L + 3000) → Calls Tryz.prog 63 #[.agg #[.bool s1, .slice a1 n1 c1, .int .i64 e1], .agg #[.bool s2, .slice a2 n2 c2, .int .i64 e2]] w1 fun r w' => NuA w' r ((C + 2 ^ 40) * Un (b + 80)) 140000 ∧ Gr w1 w') := fun w1 s1 a1 n1 c1 e1 s2 a2 n2 c2 e2 x y => by
    refine (numPlus s1 s2 a1 a2 n1 n2 c1 c2 e1 e2 _ _ (L + 3000) w1 x y (by omega)).mono ?_
    rintro r w' ⟨⟨s, ad, n, cap, e, rfl, u⟩, g'⟩
    exact ⟨⟨_, _, _, _, _, rfl, by rw [Int.add_mul]; exact u.more (by omega)⟩, g'⟩
  have CU : Hid (∀ w1 s1 a1 n1 c1 e1 V, Nu w1 s1 a1 n1 c1 e1 V 140000 → Calls Tryz.prog 170 #[.agg #[.bool s1, .slice a1 n1 c1, .int .i64 e1], .int .i64 (-(b : Int)), .bool false] w1 fun r w' => NuA w' r (cutI V b false * Un b) 200000 ∧ Gr w1 w') := fun w1 s1 a1 n1 c1 e1 V x => by
    refine (numCut s1 a1 n1 c1 e1 V b 140000 w1 x (by omega) (by omega)).mono ?_
    rintro r w' ⟨⟨s, ad, n, cap, e, rfl, u, _⟩, g'⟩
    exact ⟨⟨_, _, _, _, _, rfl, u.more (by omega)⟩, g'⟩
  obtain ⟨K1, hK1⟩ : ∃ K, cutI ((C - 2 ^ 40) * Un (b + 80)) b false * Un b = K := ⟨_, rfl⟩
  have CM : Hid (∀ w1 s1 a1 n1 c1 e1 s2 a2 n2 c2 e2, Nu w1 s1 a1 n1 c1 e1 K1 200000 → Nu w1 s2 a2 n2 c2 e2 K1 200000 → Calls Tryz.prog 172 #[.agg #[.bool s1, .slice a1 n1 c1, .int .i64 e1], .agg #[.bool s2, .slice a2 n2 c2, .int .i64 e2]] w1 fun r w' => r = .returned (.int .i64 0) ∧ Gr w1 w') := fun w1 s1 a1 n1 c1 e1 s2 a2 n2 c2 e2 x y => by
    have := numCompare s1 s2 a1 a2 n1 n2 c1 c2 e1 e2 _ _ 200000 w1 x y (by omega)
    rwa [Int.sub_self] at this
  have CA : Hid (∀ w1 s1 a1 n1 c1 e1, Nu w1 s1 a1 n1 c1 e1 ((C - 2 ^ 40) * Un (b + 80)) 140000 → Calls Tryz.prog 170 #[.agg #[.bool s1, .slice a1 n1 c1, .int .i64 e1], .int .i64 (-(b : Int)), .bool false] w1 fun r w' => NuA w' r K1 200000 ∧ Gr w1 w') := fun w1 s1 a1 n1 c1 e1 x => by rw [← hK1]; exact CU.out w1 _ _ _ _ _ _ x
  have CB : Hid (∀ w1 s1 a1 n1 c1 e1, Nu w1 s1 a1 n1 c1 e1 ((C + 2 ^ 40) * Un (b + 80)) 140000 → Calls Tryz.prog 170 #[.agg #[.bool s1, .slice a1 n1 c1, .int .i64 e1], .int .i64 (-(b : Int)), .bool false] w1 fun r w' => NuA w' r K1 200000 ∧ Gr w1 w') := fun w1 s1 a1 n1 c1 e1 x => by rw [← hK1, heq]; exact CU.out w1 _ _ _ _ _ _ x
  rw [hK1]
  clear CU heq hK1
  go_enter Tryz.func129, Tryz.ntmps129
  go_wp2
  refine wp_loop_once ?_
  go_wp2_with (first
    | (go_at_call 168; (with_reducible refine (SZ.out _ TA.out.2.2).mono ?_); rintro r w1 ⟨⟨s1, a1, n1, c1, e1, rfl, u1⟩, g1⟩)
    | (go_at_call 128; (with_reducible refine (WH.out _).mono ?_); rintro r w2 ⟨⟨s2, a2, n2, c2, e2, rfl, u2⟩, g2⟩; have m2 := g2.keepH (new_at w1 (.cells #[.bool s1, .slice a1 n1 c1, .int .i64 e1] 84)))
    | (go_at_call 169; (with_reducible refine (SC.out _ _ _ _ _ _ u2).mono ?_); rintro r w3 ⟨⟨s3, a3, n3, c3, e3, rfl, u3⟩, g3⟩; have m3 := ((Gr.refl w3).alloc (.cells #[.bool s3, .slice a3 n3 c3, .int .i64 e3] 84)).keepH (g3.keepH m2); obtain ⟨i0, i1, i2⟩ := cells_ofT m3; have v1 := (((u1.gr ((Gr.refl _).alloc _)).gr g2).gr g3).gr ((Gr.refl w3).alloc (.cells #[.bool s3, .slice a3 n3 c3, .int .i64 e3] 84)); have v3 := u3.gr ((Gr.refl w3).alloc (.cells #[.bool s3, .slice a3 n3 c3, .int .i64 e3] 84)))
    | (go_at_call 171; (with_reducible refine (LS.out _ _ _ _ _ _ _ _ _ _ _ v1 v3).mono ?_); rintro r w4 ⟨⟨s4, a4, n4, c4, e4, rfl, u4⟩, g4⟩)
    | (go_at_call 170; (with_reducible refine (CA.out _ _ _ _ _ _ u4).mono ?_); rintro r w5 ⟨⟨s5, a5, n5, c5, e5, rfl, u5⟩, g5⟩; have gb := (Gr.refl w5).alloc (.cells #[.bool s5, .slice a5 n5 c5, .int .i64 e5] 84); have m5 := gb.keepH (g5.keepH (g4.keepH m3)); have q5 := gb.keepH (g5.keepH (g4.keepH (new_at w3 (.cells #[.bool s3, .slice a3 n3 c3, .int .i64 e3] 84)))); obtain ⟨j0, j1, j2⟩ := cells_ofT m5; obtain ⟨k0, k1, k2⟩ := cells_ofT q5; have x1 := (v1.gr (g4.trans g5)).gr gb; have x3 := (v3.gr (g4.trans g5)).gr gb)
    | (go_at_call 63; (with_reducible refine (PS.out _ _ _ _ _ _ _ _ _ _ _ x1 x3).mono ?_); rintro r w6 ⟨⟨s6, a6, n6, c6, e6, rfl, u6⟩, g6⟩)
    | (go_at_call 170; (with_reducible refine (CB.out _ _ _ _ _ _ u6).mono ?_); rintro r w7 ⟨⟨s7, a7, n7, c7, e7, rfl, u7⟩, g7⟩; have gc := (Gr.refl w7).alloc (.cells #[.bool s7, .slice a7 n7 c7, .int .i64 e7] 84); have q7 := gc.keepH (g7.keepH (g6.keepH (new_at w5 (.cells #[.bool s5, .slice a5 n5 c5, .int .i64 e5] 84)))); obtain ⟨l0, l1, l2⟩ := cells_ofT q7; have y5 := ((u5.gr gb).gr (g6.trans g7)).gr gc; have y7 := u7.gr gc)
    | (go_at_call 172; (with_reducible refine (CM.out _ _ _ _ _ _ _ _ _ _ _ y5 y7).mono ?_); rintro r w8 ⟨rfl, g8⟩; obtain ⟨n0, n1', n2'⟩ := cells_ofT (g8.keepH q7); have ko := g8.keepH (gc.keepH (g7.keepH (g6.keepH (gb.keepH (g5.keepH (g4.keepH (((Gr.refl w3).alloc (.cells #[.bool s3, .slice a3 n3 c3, .int .i64 e3] 84)).keepH (g3.keepH (g2.keepH (((Gr.refl w1).alloc (.cells #[.bool s1, .slice a1 n1 c1, .int .i64 e1] 84)).keepH (g1.keepH TA.out.2.1))))))))))); have nr := NoR.of ko rfl; obtain ⟨o0, o1, o2⟩ := cells_ofT ko; obtain ⟨z0, z1, z2⟩ := open_ofT ko))
  have GG : Hid (Gr w w8) := ((((((((TA.out.2.2.trans g1).alloc _).trans g2).trans g3).alloc _).trans g4).trans (g5.trans gb)).trans (g6.trans g7)).trans (gc.trans g8)
  refine bodyPost_ret (v := .agg #[.bool s5, .slice a5 n5 c5, .int .i64 e5]) ?_ rfl ⟨⟨_, _, _, _, _, rfl, (y5.gr g8).gx nr (gx3 _ _ _ _ _)⟩, (gx3 _ _ _ _ _).gr (Nat.le_succ _) GG.out⟩
  simp [results, Tryz.results129, go_sem, o0, o1, o2]
end Go.Proofs.YthilajhciifhaaaGreatDoor
namespace Go.Proofs.YthilajhciifhaaaGreatDoor
open Go.RowKit
set_option linter.unusedVariables false
set_option linter.unusedSimpArgs false
set_option maxRecDepth 10000 in
set_option maxHeartbeats 4000000 in
theorem refUnits (b : Nat) (w : World) (hb : b ≤ 2048) :
    Calls Tryz.prog 130 #[.int .i64 1, .int .i64 (b : Int)] w fun r w' => NuA w' r (1 * Un b) 3000 ∧ Gr w w' := by
  have WH : Hid (∀ w1, Calls Tryz.prog 128 #[.int .i64 1] w1 fun r w' => NuA w' r (1 * Un 0) 10 ∧ Gr w1 w') := fun w1 => numWhole 1 w1 (by omega)
  have SC : Hid (∀ w1 s ad n cap e, Nu w1 s ad n cap e (1 * Un 0) 10 → Calls Tryz.prog 169 #[.agg #[.bool s, .slice ad n cap, .int .i64 e], .int .i64 (-(b : Int))] w1 fun r w' => NuA w' r (1 * Un b) 3000 ∧ Gr w1 w') := fun w1 s ad n cap e u => by
    refine (numScaled s ad n cap e 1 0 b 10 w1 u (by omega) (by omega)).mono ?_
    rintro r w' ⟨⟨s, ad, n, cap, e, rfl, u⟩, g'⟩
    refine ⟨⟨_, _, _, _, _, rfl, ?_⟩, g'⟩
    have := u.more (show 10 + b ≤ 3000 by omega)
    rwa [Nat.zero_add] at this
  have g0 : Hid _ := (Gr.refl w).alloc (.cells #[.bool false, .slice none 0 0, .int .i64 0] 84)
  have kb0 : Hid _ := new_at w (.cells #[.bool false, .slice none 0 0, .int .i64 0] 84)
  go_enter Tryz.func130, Tryz.ntmps130
  go_wp2_with (first
    | (go_at_call 128; (with_reducible refine (WH.out _).mono ?_); rintro r w1 ⟨⟨s1, a1, n1, c1, e1, rfl, u1⟩, g1⟩)
    | (go_at_call 169; (with_reducible refine (SC.out _ _ _ _ _ _ u1).mono ?_); rintro r w2 ⟨⟨s2, a2, n2, c2, e2, rfl, u2⟩, g2⟩; have k2 := g2.keepH (g1.keepH kb0.out); have nr := NoR.of k2 rfl; obtain ⟨y0, y1, y2⟩ := cells_ofT k2; obtain ⟨z0, z1, z2⟩ := open_ofT k2))
  refine bodyPost_ret (v := .agg #[.bool s2, .slice a2 n2 c2, .int .i64 e2]) ?_ rfl ⟨⟨_, _, _, _, _, rfl, u2.gx nr (gx3 _ _ _ _ _)⟩, (gx3 _ _ _ _ _).gr (Nat.le_refl _) ((g0.out.trans g1).trans g2)⟩
  simp [results, Tryz.results130, go_sem, y0, y1, y2]
set_option maxRecDepth 10000 in
set_option maxHeartbeats 4000000 in
theorem reduce14 (w : World) :
    Calls Tryz.prog 76 #[.int .i64 14, .int .i64 1, .bool true] w fun r w' => r = .returned (.agg #[.bool false, .bool true, .bool false, .int .i64 0, .int .i64 1]) ∧ Gr w w' := by
  go_enter Tryz.func76, Tryz.ntmps76
  go_wp2
  refine bodyPost_ret (v := .agg #[.bool false, .bool true, .bool false, .int .i64 0, .int .i64 1]) ?_ rfl ⟨rfl, (Gr.refl w).alloc _⟩
  simp [results, Tryz.results76, go_sem]
end Go.Proofs.YthilajhciifhaaaGreatDoor
