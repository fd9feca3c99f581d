import Derived.Test.YteompnpfoplppaaW1
namespace Go.Proofs.Yteompnpfoplppaa
open Go.RowKit

theorem next_nan (x : Nat) (up : Bool) (w : World) (h : nanB x = true) : Calls Try.prog 27 #[.float .f64 x, .bool up] w fun e w' => e = .returned (.float .f64 x) ∧ w' = w := by
  go_enter Try.func27, Try.ntmps27
  go_wp2_with (first | (go_at_call 51; refine (inf12z _ _).mono ?_; rintro e w' ⟨rfl, rfl⟩) | (go_at_call 50; refine (nan11 _ _).mono ?_; rintro e w' ⟨rfl, rfl⟩))
  go_ret
  exact ⟨rfl, rfl⟩
theorem next_pinf (x : Nat) (w : World) (h : nanB x = false) (h1 : pinfB x = true) : Calls Try.prog 27 #[.float .f64 x, .bool true] w fun e w' => e = .returned (.float .f64 x) ∧ w' = w := by
  go_enter Try.func27, Try.ntmps27
  go_wp2_with (first | (go_at_call 51; refine (inf12p _ _).mono ?_; rintro e w' ⟨rfl, rfl⟩) | (go_at_call 50; refine (nan11 _ _).mono ?_; rintro e w' ⟨rfl, rfl⟩))
  go_ret
  exact ⟨rfl, rfl⟩
theorem next_minf (x : Nat) (w : World) (h : nanB x = false) (h1 : pinfB (negN x) = true) : Calls Try.prog 27 #[.float .f64 x, .bool false] w fun e w' => e = .returned (.float .f64 x) ∧ w' = w := by
  go_enter Try.func27, Try.ntmps27
  go_wp2_with (first | (go_at_call 51; refine (inf12m _ _).mono ?_; rintro e w' ⟨rfl, rfl⟩) | (go_at_call 50; refine (nan11 _ _).mono ?_; rintro e w' ⟨rfl, rfl⟩))
  go_ret
  exact ⟨rfl, rfl⟩
theorem next_step_up (x : Nat) (p : Bool) (w : World) (hx : x + 1 < 18446744073709551616) (hx0 : 0 < x) (h : nanB x = false) (h1 : pinfB x = false) (h2 : zeroB x = false) (h3 : posB x = p) :
    Calls Try.prog 27 #[.float .f64 x, .bool true] w fun e w' => e = .returned (.float .f64 (if p then x + 1 else x - 1)) ∧ w' = w := by
  have h4 := bits14
  have h5 := from13
  unfold zeroB at h2
  unfold posB at h3
  cases p
  all_goals
    go_enter Try.func27, Try.ntmps27
    go_wp2_with (first | (go_at_call 51; refine (inf12p _ _).mono ?_; rintro e w' ⟨rfl, rfl⟩) | (go_at_call 50; refine (nan11 _ _).mono ?_; rintro e w' ⟨rfl, rfl⟩))
    go_ret
    exact ⟨by congr 2, rfl⟩
theorem next_step_down (x : Nat) (p : Bool) (w : World) (hx : x + 1 < 18446744073709551616) (hx0 : 0 < x) (h : nanB x = false) (h1 : pinfB (negN x) = false) (h2 : zeroB x = false) (h3 : posB x = p) :
    Calls Try.prog 27 #[.float .f64 x, .bool false] w fun e w' => e = .returned (.float .f64 (if p then x - 1 else x + 1)) ∧ w' = w := by
  have h4 := bits14
  have h5 := from13
  unfold zeroB at h2
  unfold posB at h3
  cases p
  all_goals
    go_enter Try.func27, Try.ntmps27
    go_wp2_with (first | (go_at_call 51; refine (inf12m _ _).mono ?_; rintro e w' ⟨rfl, rfl⟩) | (go_at_call 50; refine (nan11 _ _).mono ?_; rintro e w' ⟨rfl, rfl⟩))
    go_ret
    exact ⟨by congr 2, rfl⟩
theorem next_zero_up (x : Nat) (w : World) (h : nanB x = false) (h1 : pinfB x = false) (h2 : zeroB x = true) :
    Calls Try.prog 27 #[.float .f64 x, .bool true] w fun e w' => e = .returned (.float .f64 1) ∧ w' = w := by
  unfold zeroB at h2
  go_enter Try.func27, Try.ntmps27
  go_wp2_with (first | (go_at_call 51; refine (inf12p _ _).mono ?_; rintro e w' ⟨rfl, rfl⟩) | (go_at_call 50; refine (nan11 _ _).mono ?_; rintro e w' ⟨rfl, rfl⟩))
  go_ret
  exact ⟨rfl, rfl⟩
theorem next_zero_down (x : Nat) (w : World) (h : nanB x = false) (h1 : pinfB (negN x) = false) (h2 : zeroB x = true) :
    Calls Try.prog 27 #[.float .f64 x, .bool false] w fun e w' => e = .returned (.float .f64 9223372036854775809) ∧ w' = w := by
  unfold zeroB at h2
  go_enter Try.func27, Try.ntmps27
  go_wp2_with (first | (go_at_call 51; refine (inf12m _ _).mono ?_; rintro e w' ⟨rfl, rfl⟩) | (go_at_call 50; refine (nan11 _ _).mono ?_; rintro e w' ⟨rfl, rfl⟩))
  go_ret
  exact ⟨rfl, rfl⟩

/-- THE FLOAT NEXT TO ONE: 'out' says whether that side leads away from nought -/
def nextW (s : Bool) (r : Nat) (up : Bool) : Nat :=
  if 9218868437227405312 < r then W s r
  else if r = 0 then W (!up) 1
  else if s = !up then (if r = 9218868437227405312 then W s r else W s (r + 1)) else W s (r - 1)

theorem W_succ (s : Bool) (r : Nat) : W s r + 1 = W s (r + 1) := by cases s <;> rfl
theorem W_pred (s : Bool) (r : Nat) (h : 0 < r) : W s r - 1 = W s (r - 1) := by
  cases s
  · rfl
  · unfold W; simp only [if_true]; omega

theorem next5 (s : Bool) (r : Nat) (up : Bool) (w : World) (h : r < 9223372036854775808) :
    Calls Try.prog 27 #[.float .f64 (W s r), .bool up] w fun e w' => e = .returned (.float .f64 (nextW s r up)) ∧ w' = w := by
  have hn := nanB_W s r h
  unfold nextW
  by_cases h1 : 9218868437227405312 < r
  · rw [if_pos h1]
    rw [decide_eq_true h1] at hn
    exact next_nan _ _ _ hn
  rw [if_neg h1]
  rw [decide_eq_false h1] at hn
  have hz := zeroB_W s r (by omega)
  have hp := posB_W s r (by omega)
  have hi := pinfB_W s r (by omega)
  have hm := pinfB_W (!s) r (by omega)
  rw [← neg_W s r h] at hm
  have hl := W_lt s (r + 1) (by omega)
  rw [← W_succ] at hl
  by_cases h2 : r = 0
  · rw [if_pos h2]
    rw [decide_eq_true h2] at hz
    rw [decide_eq_false (by omega), Bool.and_false] at hi hm
    cases up
    · exact next_zero_down _ _ hn hm hz
    · exact next_zero_up _ _ hn hi hz
  rw [if_neg h2]
  rw [decide_eq_false h2] at hz
  rw [decide_eq_true h2, Bool.and_true] at hp
  have hW : 0 < W s r := by cases s <;> unfold W <;> simp <;> omega
  cases s <;> cases up <;> simp only [Bool.not_true, Bool.not_false, Bool.true_and, Bool.false_and, Bool.false_eq_true, Bool.true_eq_false, if_true, if_false] at *
  · have := next_step_down _ _ w hl hW hn hm hz hp
    rw [W_pred false r (by omega)] at this
    exact this
  · by_cases h3 : r = 9218868437227405312
    · rw [if_pos h3]
      rw [decide_eq_true h3] at hi
      exact next_pinf _ _ hn hi
    · rw [if_neg h3]
      rw [decide_eq_false h3] at hi
      have := next_step_up _ _ w hl hW hn hi hz hp
      exact this
  · by_cases h3 : r = 9218868437227405312
    · rw [if_pos h3]
      rw [decide_eq_true h3] at hm
      exact next_minf _ _ hn hm
    · rw [if_neg h3]
      rw [decide_eq_false h3] at hm
      have := next_step_down _ _ w hl hW hn hm hz hp
      exact this
  · have := next_step_up _ _ w hl hW hn hi hz hp
    rw [W_pred true r (by omega)] at this
    exact this
end Go.Proofs.Yteompnpfoplppaa
