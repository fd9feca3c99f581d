import Derived.Test.YteeppbkkgleagaaS2
namespace Go.Proofs.Yteeppbkkgleagaa
open Go.RowKit
open Ieee
set_option linter.unusedVariables false

theorem rnear_not (s : Bool) (r : Nat) (w : World) (h : r < 9223372036854775808) (hi : 9218868437227405312 ≤ r) :
    Calls Try.prog 28 #[.float .f64 (W s r)] w fun e w' => e = .returned (.tuple #[.int .i64 0, .float .f64 0, .int .i64 5]) ∧ w' = w.drew := by
  go_enter Try.func28, Try.ntmps28
  go_wp2_with (go_at_call 42; refine (rfin42_not _ _ _ h hi).mono ?_; rintro e w' ⟨rfl, rfl⟩)
  go_ret3
  exact ⟨rfl, rfl⟩
theorem rnear_big (s : Bool) (r : Nat) (w : World) (h : 4845873199050653696 < r) (h' : r < 9218868437227405312) :
    Calls Try.prog 28 #[.float .f64 (W s r)] w fun e w' => e = .returned (.tuple #[.int .i64 0, .float .f64 0, .int .i64 6]) ∧ w' = w := by
  obtain ⟨b1, b2⟩ := ends_W s r (by omega)
  have hM := M_lt h
  cases s
  · rw [decide_eq_true (by unfold val; simp only [Bool.false_eq_true, if_false]; omega)] at b1
    rw [decide_eq_false (by unfold val; simp only [Bool.false_eq_true, if_false]; omega)] at b2
    obtain ⟨c1, c2⟩ := or_false_split b2
    rcases or_true_split b1 with d1 | ⟨d1, d2⟩
    all_goals
      clear b1 b2
      go_enter Try.func28, Try.ntmps28
      go_wp2_with (go_at_call 42; refine (rfin42 _ _ _ h').mono ?_; rintro e w' ⟨rfl, rfl⟩)
      go_ret3
      exact ⟨rfl, rfl⟩
  · rw [decide_eq_false (by unfold val; simp only [if_true]; omega)] at b1
    obtain ⟨c1, c2⟩ := or_false_split b1
    clear b1 b2
    go_enter Try.func28, Try.ntmps28
    go_wp2_with (go_at_call 42; refine (rfin42 _ _ _ h').mono ?_; rintro e w' ⟨rfl, rfl⟩)
    go_ret3
    exact ⟨rfl, rfl⟩

theorem rnear_keep (x f0 y0 d0 : Nat) (n0 : Int) (w : World) (k : Bool)
    (hF : ∀ w, Calls Try.prog 42 #[.float .f64 x] w fun e w' => e = .returned (.bool true) ∧ w' = w)
    (b1 : (FloatKind.f64.format.order x 14069245235905429504 == some .gt || FloatKind.f64.format.order x 14069245235905429504 == some .eq) = true)
    (b2 : (FloatKind.f64.format.order x 4845873199050653696 == some .lt || FloatKind.f64.format.order x 4845873199050653696 == some .eq) = true)
    (hc : (convert 22 2 (.float .f64 x)).run Try.prog w = .ok (.int .i64 n0) w) (hf : floatOfInt .f64 n0 = f0) (hs : double.sub x f0 = some y0) (ha : absN y0 = d0)
    (g : (FloatKind.f64.format.order d0 4602678819172646912 == some .gt) = false) (k1 : (FloatKind.f64.format.order d0 4602678819172646912 == some .eq) = k) (k2 : k = true → n0.tmod 2 = 0) :
    Calls Try.prog 28 #[.float .f64 x] w fun e w' => e = .returned (.tuple #[.int .i64 n0, .float .f64 d0, .int .i64 0]) ∧ w' = w := by
  have HF : Hid (∀ w, Calls Try.prog 42 #[.float .f64 x] w fun e w' => e = .returned (.bool true) ∧ w' = w) := hF
  clear hF
  have g1 := sub_run w _ _ _ hs
  clear hs
  cases k
  · clear k2
    rcases or_true_split b1 with d1 | ⟨d1, d2⟩ <;> rcases or_true_split b2 with e1 | ⟨e1, e2⟩
    all_goals
      clear b1 b2
      go_enter Try.func28, Try.ntmps28
      go_wp2_with (first | (go_at_call 42; refine (HF.out _).mono ?_; rintro e w' ⟨rfl, rfl⟩) | (go_at_call 56; refine (abs16 _ _).mono ?_; rintro e w' ⟨rfl, rfl⟩))
      go_ret3
      exact ⟨rfl, rfl⟩
  · have k2 := k2 rfl
    rcases or_true_split b1 with d1 | ⟨d1, d2⟩ <;> rcases or_true_split b2 with e1 | ⟨e1, e2⟩
    all_goals
      clear b1 b2
      go_enter Try.func28, Try.ntmps28
      go_wp2_with (first | (go_at_call 42; refine (HF.out _).mono ?_; rintro e w' ⟨rfl, rfl⟩) | (go_at_call 56; refine (abs16 _ _).mono ?_; rintro e w' ⟨rfl, rfl⟩))
      go_ret3
      exact ⟨rfl, rfl⟩
end Go.Proofs.Yteeppbkkgleagaa
