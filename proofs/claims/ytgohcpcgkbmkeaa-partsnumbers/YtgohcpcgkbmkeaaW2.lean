import Derived.Test.YtgohcpcgkbmkeaaW1
import Derived.Laws.ComplexArith
namespace Go.Proofs.Ytgohcpcgkbmkeaa
open Go.RowKit

theorem both22 (a b c d : Nat) (w : World) : Calls Try.prog 22 #[.complex .f64 a b, .complex .f64 c d] w fun e w' => e = .returned (.bool (sameB a c && sameB b d)) ∧ w' = w := by
  cases hx : sameB a c
  all_goals
    go_enter Try.func22, Try.ntmps22
    go_wp2_with (go_at_call 29; refine (same29 _ _ _).mono ?_; rintro e w' ⟨rfl, rfl⟩)
    go_ret
    exact ⟨by simp, rfl⟩
theorem same7 (a b c d : Nat) (w : World) : Calls Try.prog 7 #[.complex .f64 a b, .complex .f64 c d] w fun e w' => e = .returned (.bool (sameB a c && sameB b d)) ∧ w' = w := by
  go_enter Try.func7, Try.ntmps7
  go_wp2_with (go_at_call 22; refine (both22 _ _ _ _ _).mono ?_; rintro e w' ⟨rfl, rfl⟩)
  go_ret
  exact ⟨rfl, rfl⟩
theorem same13 (a b c d : Nat) (w : World) : Calls Try.prog 13 #[.complex .f64 a b, .complex .f64 c d] w fun e w' => e = .returned (.bool (sameB a c && sameB b d)) ∧ w' = w := by
  cases hx : sameB a c
  all_goals
    go_enter Try.func13, Try.ntmps13
    go_wp2_with (go_at_call 25; refine (same25 _ _ _).mono ?_; rintro e w' ⟨rfl, rfl⟩)
    go_ret
    exact ⟨by simp, rfl⟩
theorem like27 (x y : Nat) (w : World) : Calls Try.prog 27 #[.float .f64 x, .float .f64 y] w fun e w' => e = .returned (.bool (likeB x y)) ∧ w' = w := by
  unfold likeB
  cases hx : (FloatKind.f64.format.order x y == some .eq) <;> cases hn : nanB x
  all_goals
    go_enter Try.func27, Try.ntmps27
    go_wp2_with (go_at_call 15; refine (nan15 _ _).mono ?_; rintro e w' ⟨rfl, rfl⟩)
    go_ret
    exact ⟨by simp, rfl⟩
theorem like17 (a b c d : Nat) (w : World) : Calls Try.prog 17 #[.complex .f64 a b, .complex .f64 c d] w fun e w' => e = .returned (.bool (likeB a c && likeB b d)) ∧ w' = w := by
  cases hx : likeB a c
  all_goals
    go_enter Try.func17, Try.ntmps17
    go_wp2_with (go_at_call 27; refine (like27 _ _ _).mono ?_; rintro e w' ⟨rfl, rfl⟩)
    go_ret
    exact ⟨by simp, rfl⟩
theorem inf31 (x : Nat) (w : World) : Calls Try.prog 31 #[.float .f64 x, .int .i64 0] w fun e w' => e = .returned (.bool (infB x)) ∧ w' = w := by
  go_enter Try.func31, Try.ntmps31
  go_wp2_with (go_at_call 26; refine (abs26 _ _).mono ?_; rintro e w' ⟨rfl, rfl⟩)
  go_ret
  exact ⟨rfl, rfl⟩
theorem fin28 (x : Nat) (w : World) : Calls Try.prog 28 #[.float .f64 x] w fun e w' => e = .returned (.bool (!infB x && !nanB x)) ∧ w' = w := by
  cases hx : infB x
  all_goals
    go_enter Try.func28, Try.ntmps28
    go_wp2_with (first | (go_at_call 31; refine (inf31 _ _).mono ?_; rintro e w' ⟨rfl, rfl⟩) | (go_at_call 15; refine (nan15 _ _).mono ?_; rintro e w' ⟨rfl, rfl⟩))
    go_ret
    exact ⟨by simp, rfl⟩
theorem fin18 (x y : Nat) (w : World) : Calls Try.prog 18 #[.complex .f64 x y] w fun e w' => e = .returned (.bool ((!infB x && !nanB x) && (!infB y && !nanB y))) ∧ w' = w := by
  cases hx : (!infB x && !nanB x)
  all_goals
    go_enter Try.func18, Try.ntmps18
    go_wp2_with (go_at_call 28; refine (fin28 _ _).mono ?_; rintro e w' ⟨rfl, rfl⟩)
    go_ret
    exact ⟨by simp, rfl⟩
theorem turn9_1 (a b : Nat) (q : Int) (w : World) (h : bits .and .i64 q 3 = 1) : Calls Try.prog 9 #[.complex .f64 a b, .int .i64 q] w fun e w' => e = .returned (.complex .f64 (aboutN b) a) ∧ w' = w := by
  go_enter Try.func9, Try.ntmps9
  go_wp2_with (go_at_call 23; refine (about23 _ _).mono ?_; rintro e w' ⟨rfl, rfl⟩)
  go_ret
  exact ⟨rfl, rfl⟩
theorem turn9_2 (a b : Nat) (q : Int) (w : World) (h : bits .and .i64 q 3 = 2) : Calls Try.prog 9 #[.complex .f64 a b, .int .i64 q] w fun e w' => e = .returned (.complex .f64 (aboutN a) (aboutN b)) ∧ w' = w := by
  go_enter Try.func9, Try.ntmps9
  go_wp2_with (go_at_call 23; refine (about23 _ _).mono ?_; rintro e w' ⟨rfl, rfl⟩)
  go_ret
  exact ⟨rfl, rfl⟩
theorem turn9_3 (a b : Nat) (q : Int) (w : World) (h : bits .and .i64 q 3 = 3) : Calls Try.prog 9 #[.complex .f64 a b, .int .i64 q] w fun e w' => e = .returned (.complex .f64 b (aboutN a)) ∧ w' = w := by
  go_enter Try.func9, Try.ntmps9
  go_wp2_with (go_at_call 23; refine (about23 _ _).mono ?_; rintro e w' ⟨rfl, rfl⟩)
  go_ret
  exact ⟨rfl, rfl⟩
theorem turn9_0 (a b : Nat) (q : Int) (w : World) (h : bits .and .i64 q 3 = 0) : Calls Try.prog 9 #[.complex .f64 a b, .int .i64 q] w fun e w' => e = .returned (.complex .f64 a b) ∧ w' = w := by
  go_enter Try.func9, Try.ntmps9
  go_wp2_with (go_at_call 23; refine (about23 _ _).mono ?_; rintro e w' ⟨rfl, rfl⟩)
  go_ret
  exact ⟨rfl, rfl⟩
def mulRe (a b c d : Nat) : Nat := ((cMulBits a b c d).getD (0, 0)).1
def mulIm (a b c d : Nat) : Nat := ((cMulBits a b c d).getD (0, 0)).2
theorem mul8v (a b c d : Nat) (w : World) (h : (cMulBits a b c d).isSome = true) : Calls Try.prog 8 #[.complex .f64 a b, .complex .f64 c d] w fun e w' => e = .returned (.complex .f64 (mulRe a b c d) (mulIm a b c d)) ∧ w' = w := by
  obtain ⟨⟨re, im⟩, h⟩ := Option.isSome_iff_exists.1 h
  have hre : mulRe a b c d = re := by unfold mulRe; rw [h]; rfl
  have him : mulIm a b c d = im := by unfold mulIm; rw [h]; rfl
  rw [hre, him]
  clear hre him
  unfold cMulBits at h
  cases h1 : floatBits .mul .f64 a c with
  | none => simp [h1] at h
  | some ac =>
  cases h2 : floatBits .mul .f64 b d with
  | none => simp [h1, h2] at h
  | some bd =>
  cases h3 : floatBits .sub .f64 ac bd with
  | none => simp [h1, h2, h3] at h
  | some x =>
  cases h4 : floatBits .mul .f64 a d with
  | none => simp [h1, h2, h4] at h
  | some ad =>
  cases h5 : floatBits .mul .f64 b c with
  | none => simp [h1, h2, h4, h5] at h
  | some bc =>
  cases h6 : floatBits .add .f64 ad bc with
  | none => simp [h1, h2, h4, h5, h6] at h
  | some y =>
    simp [h1, h2, h3, h4, h5, h6] at h
    obtain ⟨rfl, rfl⟩ := h
    have g1 := run_float_arith (P := Try.prog) w .mul 22 .f64 _ _ _ h1
    have g2 := run_float_arith (P := Try.prog) w .mul 22 .f64 _ _ _ h2
    have g3 := run_float_arith (P := Try.prog) w .sub 22 .f64 _ _ _ h3
    have g4 := run_float_arith (P := Try.prog) w .mul 22 .f64 _ _ _ h4
    have g5 := run_float_arith (P := Try.prog) w .mul 22 .f64 _ _ _ h5
    have g6 := run_float_arith (P := Try.prog) w .add 22 .f64 _ _ _ h6
    clear h1 h2 h3 h4 h5 h6
    go_enter Try.func8, Try.ntmps8
    go_wp2
    go_ret
    exact ⟨rfl, rfl⟩

theorem mul8a (w : World) : Calls Try.prog 8 #[.complex .f64 9218868437227405312 0, .complex .f64 4607182418800017408 0] w fun e w' => ∃ im, e = .returned (.complex .f64 9218868437227405312 im) ∧ nanB im = true ∧ w' = w.drew.drew := by
  have g1 := run_float_arith (P := Try.prog) w .mul 22 .f64 9218868437227405312 4607182418800017408 9218868437227405312 (by decide +kernel)
  have g2 := run_float_arith (P := Try.prog) w .mul 22 .f64 0 0 0 (by decide +kernel)
  have g3 := run_float_arith (P := Try.prog) w .sub 22 .f64 9218868437227405312 0 9218868437227405312 (by decide +kernel)
  obtain ⟨r, g4, hr⟩ := run_float_nan (P := Try.prog) .mul (by simp) 22 9218868437227405312 0 w (by decide +kernel)
  have g5 := run_float_arith (P := Try.prog) w.drew .mul 22 .f64 0 4607182418800017408 0 (by decide +kernel)
  obtain ⟨r2, g6, hr2⟩ := run_float_nan (P := Try.prog) .add (by simp) 22 r 0 w.drew (nan_add r 0 hr)
  go_enter Try.func8, Try.ntmps8
  go_wp2
  go_ret
  exact ⟨r2, rfl, hr2, rfl⟩
theorem mul8b (w : World) : Calls Try.prog 8 #[.complex .f64 9218868437227405312 0, .complex .f64 4607182418800017408 9218868437227405312] w fun e w' => ∃ re, e = .returned (.complex .f64 re 9218868437227405312) ∧ nanB re = true ∧ w' = w.drew.drew := by
  have g1 := run_float_arith (P := Try.prog) w .mul 22 .f64 9218868437227405312 4607182418800017408 9218868437227405312 (by decide +kernel)
  obtain ⟨r, g2, hr⟩ := run_float_nan (P := Try.prog) .mul (by simp) 22 0 9218868437227405312 w (by decide +kernel)
  obtain ⟨r2, g3, hr2⟩ := run_float_nan (P := Try.prog) .sub (by simp) 22 9218868437227405312 r w.drew (nan_sub 9218868437227405312 r hr)
  have g4 := run_float_arith (P := Try.prog) w.drew.drew .mul 22 .f64 9218868437227405312 9218868437227405312 9218868437227405312 (by decide +kernel)
  have g5 := run_float_arith (P := Try.prog) w.drew.drew .mul 22 .f64 0 4607182418800017408 0 (by decide +kernel)
  have g6 := run_float_arith (P := Try.prog) w.drew.drew .add 22 .f64 9218868437227405312 0 9218868437227405312 (by decide +kernel)
  go_enter Try.func8, Try.ntmps8
  go_wp2
  go_ret
  exact ⟨r2, rfl, hr2, rfl⟩
def normO (a b : Nat) : Option Nat := (floatBits .mul .f64 a a).bind fun x => (floatBits .mul .f64 b b).bind fun y => floatBits .add .f64 x y
theorem norm14 (a b r : Nat) (w : World) (h : normO a b = some r) : Calls Try.prog 14 #[.complex .f64 a b] w fun e w' => e = .returned (.float .f64 r) ∧ w' = w := by
  unfold normO at h
  cases h1 : floatBits .mul .f64 a a with
  | none => simp [h1] at h
  | some x =>
  cases h2 : floatBits .mul .f64 b b with
  | none => simp [h1, h2] at h
  | some y =>
  simp [h1, h2] at h
  have g1 := run_float_arith (P := Try.prog) w .mul 22 .f64 _ _ _ h1
  have g2 := run_float_arith (P := Try.prog) w .mul 22 .f64 _ _ _ h2
  have g3 := run_float_arith (P := Try.prog) w .add 22 .f64 _ _ _ h
  clear h h1 h2
  go_enter Try.func14, Try.ntmps14
  go_wp2
  go_ret
  exact ⟨rfl, rfl⟩
theorem size16 (a b r : Nat) (w : World) (h : floatBits .add .f64 (absN a) (absN b) = some r) : Calls Try.prog 16 #[.complex .f64 a b] w fun e w' => e = .returned (.float .f64 r) ∧ w' = w := by
  have g3 := run_float_arith (P := Try.prog) w .add 22 .f64 _ _ _ h
  clear h
  go_enter Try.func16, Try.ntmps16
  go_wp2_with (go_at_call 26; refine (abs26 _ _).mono ?_; rintro e w' ⟨rfl, rfl⟩)
  go_ret
  exact ⟨rfl, rfl⟩
theorem size16n (a b : Nat) (w : World) (h : floatBits .add .f64 (absN a) (absN b) = none) : Calls Try.prog 16 #[.complex .f64 a b] w fun e w' => ∃ r, e = .returned (.float .f64 r) ∧ nanB r = true ∧ w' = w.drew := by
  obtain ⟨r, g3, hr⟩ := run_float_nan (P := Try.prog) .add (by simp) 22 _ _ w h
  clear h
  go_enter Try.func16, Try.ntmps16
  go_wp2_with (go_at_call 26; refine (abs26 _ _).mono ?_; rintro e w' ⟨rfl, rfl⟩)
  go_ret
  exact ⟨r, rfl, hr, rfl⟩
end Go.Proofs.Ytgohcpcgkbmkeaa
