import Derived.Test.YteompnpfoplppaaW6
namespace Go.Proofs.Yteompnpfoplppaa
open Go.RowKit
open Ieee
set_option linter.unusedVariables false

theorem same10 (x y : Nat) (w : World) : Calls Try.prog 7 #[.float .f64 x, .float .f64 y] w fun e w' => e = .returned (.bool (sameB x y)) ∧ w' = w := by
  have h1 := bits14
  unfold sameB nanB
  cases hx : ((x : Int) == (y : Int)) <;> cases hn : (FloatKind.f64.format.order x x != some .eq)
  all_goals
    go_enter Try.func7, Try.ntmps7
    go_wp2
    go_ret
    exact ⟨by simp, rfl⟩
theorem sameB_refl (x : Nat) : sameB x x = true := by
  unfold sameB
  rw [beq_self_eq_true, Bool.true_or]

/-! the document's step -/
theorem rnext_stay (x : Nat) (w : World) (h : (nanB x || pinfB x) = true) : Calls Try.prog 56 #[.float .f64 x, .bool true] w fun e w' => e = .returned (.float .f64 x) ∧ w' = w := by
  unfold nanB pinfB at h
  cases h1 : (FloatKind.f64.format.order x x != some .eq)
  · rw [h1, Bool.false_or] at h
    go_enter Try.func56, Try.ntmps56
    go_wp2
    go_ret
    exact ⟨rfl, rfl⟩
  · clear h
    go_enter Try.func56, Try.ntmps56
    go_wp2
    go_ret
    exact ⟨rfl, rfl⟩
theorem rnext_zero (x : Nat) (w : World) (h : nanB x = false) (h1 : pinfB x = false) (h2 : zeroB x = true) :
    Calls Try.prog 56 #[.float .f64 x, .bool true] w fun e w' => e = .returned (.float .f64 1) ∧ w' = w := by
  unfold nanB at h
  unfold pinfB at h1
  unfold zeroB at h2
  have h5 := from13
  go_enter Try.func56, Try.ntmps56
  go_wp2
  go_ret
  exact ⟨rfl, rfl⟩
theorem rnext_step (x : Nat) (p : Bool) (w : World) (hx : x + 1 < 18446744073709551616) (hx0 : 0 < x) (h : nanB x = false) (h1 : pinfB x = false) (h2 : zeroB x = false) (h3 : posB x = p) :
    Calls Try.prog 56 #[.float .f64 x, .bool true] w fun e w' => e = .returned (.float .f64 (if p then x + 1 else x - 1)) ∧ w' = w := by
  unfold nanB at h
  unfold pinfB at h1
  unfold zeroB at h2
  unfold posB at h3
  have h4 := bits14
  have h5 := from13
  cases p
  all_goals
    go_enter Try.func56, Try.ntmps56
    go_wp2
    go_ret
    exact ⟨by congr 2, rfl⟩
theorem rnext_up (s : Bool) (r : Nat) (w : World) (h : r < 9223372036854775808) :
    Calls Try.prog 56 #[.float .f64 (W s r), .bool true] w fun e w' => e = .returned (.float .f64 (nextW s r true)) ∧ w' = w := by
  have hn := nanB_W s r h
  unfold nextW
  by_cases h1 : 9218868437227405312 < r
  · rw [if_pos h1]
    rw [decide_eq_true h1] at hn
    exact rnext_stay _ _ (by rw [hn]; rfl)
  rw [if_neg h1]
  rw [decide_eq_false h1] at hn
  have hz := zeroB_W s r (by omega)
  have hp := posB_W s r (by omega)
  have hi := pinfB_W s r (by omega)
  have hl := W_lt s (r + 1) (by omega)
  rw [← W_succ] at hl
  by_cases h2 : r = 0
  · rw [if_pos h2]
    rw [decide_eq_true h2] at hz
    rw [decide_eq_false (by omega), Bool.and_false] at hi
    exact rnext_zero _ _ hn hi hz
  rw [if_neg h2]
  rw [decide_eq_false h2] at hz
  rw [decide_eq_true h2, Bool.and_true] at hp
  have hW : 0 < W s r := by cases s <;> unfold W <;> simp <;> omega
  cases s <;> simp only [Bool.not_true, Bool.not_false, Bool.true_and, Bool.false_and, Bool.true_eq_false, if_true, if_false] at *
  · by_cases h3 : r = 9218868437227405312
    · rw [if_pos h3]
      rw [decide_eq_true h3] at hi
      exact rnext_stay _ _ (by rw [hi, Bool.or_true])
    · rw [if_neg h3]
      rw [decide_eq_false h3] at hi
      have := rnext_step _ _ w hl hW hn hi hz hp
      exact this
  · have := rnext_step _ _ w hl hW hn hi hz hp
    rw [W_pred true r (by omega)] at this
    exact this
theorem nextW_neg (s : Bool) (r : Nat) (h : r < 9223372036854775808) : negN (nextW (!s) r true) = nextW s r false := by
  unfold nextW
  by_cases h1 : 9218868437227405312 < r
  · rw [if_pos h1, if_pos h1, neg_W _ _ h, Bool.not_not]
  rw [if_neg h1, if_neg h1]
  by_cases h2 : r = 0
  · rw [if_pos h2, if_pos h2, neg_W _ _ (by omega)]; rfl
  rw [if_neg h2, if_neg h2]
  cases s <;> simp only [Bool.not_true, Bool.not_false, Bool.true_eq_false, Bool.false_eq_true, if_true, if_false]
  · rw [neg_W _ _ (by omega)]; rfl
  · split
    · rw [neg_W _ _ h]; rfl
    · rw [neg_W _ _ (by omega)]; rfl
theorem rnext_down (s : Bool) (r : Nat) (w : World) (h : r < 9223372036854775808) :
    Calls Try.prog 56 #[.float .f64 (W s r), .bool false] w fun e w' => e = .returned (.float .f64 (nextW s r false)) ∧ w' = w := by
  have e1 := neg_W s r h
  have e2 := nextW_neg s r h
  have HU : Hid (∀ w, Calls Try.prog 56 #[.float .f64 (W (!s) r), .bool true] w fun e w' => e = .returned (.float .f64 (nextW (!s) r true)) ∧ w' = w) := fun w => rnext_up (!s) r w h
  have g1 : ∀ w, (Op.unary .neg (.float .f64 (W s r))).run Try.prog w = .ok (.float .f64 (W (!s) r)) w := by
    intro w; rw [← e1]; exact neg_run _ w
  have g2 : ∀ w, (Op.unary .neg (.float .f64 (nextW (!s) r true))).run Try.prog w = .ok (.float .f64 (nextW s r false)) w := by
    intro w; rw [← e2]; exact neg_run _ w
  clear e1 e2
  generalize W (!s) r = y at *
  generalize W s r = x at *
  generalize nextW (!s) r true = z at *
  generalize nextW s r false = u at *
  go_enter Try.func56, Try.ntmps56
  go_wp2_with (go_at_call 56; with_reducible refine (HU.out _).mono ?_; rintro e w' ⟨rfl, rfl⟩)
  go_ret
  exact ⟨rfl, rfl⟩
theorem rnext30 (s : Bool) (r : Nat) (up : Bool) (w : World) (h : r < 9223372036854775808) :
    Calls Try.prog 56 #[.float .f64 (W s r), .bool up] w fun e w' => e = .returned (.float .f64 (nextW s r up)) ∧ w' = w := by
  cases up
  · exact rnext_down s r w h
  · exact rnext_up s r w h
end Go.Proofs.Yteompnpfoplppaa
