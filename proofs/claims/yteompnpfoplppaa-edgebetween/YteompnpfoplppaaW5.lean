import Derived.Test.YteompnpfoplppaaW4
namespace Go.Proofs.Yteompnpfoplppaa
open Go.RowKit
open Ieee
set_option linter.unusedVariables false

def negB (x : Nat) : Bool := FloatKind.f64.format.order x 0 == some .lt
def sideW (s : Bool) (r off : Nat) (up : Bool) : Nat := if (if up then posB off else negB off) then nextW s r up else W s r
theorem side20 (s : Bool) (r off : Nat) (up : Bool) (w : World) (h : r < 9223372036854775808) :
    Calls Try.prog 33 #[.float .f64 (W s r), .float .f64 off, .bool up] w fun e w' => e = .returned (.float .f64 (sideW s r off up)) ∧ w' = w := by
  unfold sideW posB negB
  have hN := fun w => next5 s r up w h
  cases up
  · cases hp : (FloatKind.f64.format.order off 0 == some .lt)
    all_goals
      go_enter Try.func33, Try.ntmps33
      go_wp2_with (go_at_call 27; refine (hN _).mono ?_; rintro e w' ⟨rfl, rfl⟩)
      go_ret
      exact ⟨rfl, rfl⟩
  · cases hp : (FloatKind.f64.format.order off 0 == some .gt)
    all_goals
      go_enter Try.func33, Try.ntmps33
      go_wp2_with (go_at_call 27; refine (hN _).mono ?_; rintro e w' ⟨rfl, rfl⟩)
      go_ret
      exact ⟨rfl, rfl⟩
theorem err21_keep (a b s t o : Nat) (w : World) (h : (FloatKind.f64.format.order (absN a) (absN b) == some .lt) = false) (h1 : double.sub s a = some t) (h2 : double.sub b t = some o) :
    Calls Try.prog 34 #[.float .f64 a, .float .f64 b, .float .f64 s] w fun e w' => e = .returned (.float .f64 o) ∧ w' = w := by
  have g1 := sub_run w _ _ _ h1
  have g2 := sub_run w _ _ _ h2
  clear h1 h2
  go_enter Try.func34, Try.ntmps34
  go_wp2_with (go_at_call 53; refine (abs16 _ _).mono ?_; rintro e w' ⟨rfl, rfl⟩)
  go_ret
  exact ⟨rfl, rfl⟩
theorem add10 (a b s o : Nat) (sg : Bool) (r : Nat) (up : Bool) (w : World) (ha : finB a = true) (hb : finB b = true) (h1 : double.add a b = some s) (hz : zeroB s = false) (hs : s = W sg r) (hr : r < 9223372036854775808)
    (he : ∀ w, Calls Try.prog 34 #[.float .f64 a, .float .f64 b, .float .f64 s] w fun e w' => e = .returned (.float .f64 o) ∧ w' = w) :
    Calls Try.prog 8 #[.float .f64 a, .float .f64 b, .bool up] w fun e w' => e = .returned (.float .f64 (sideW sg r o up)) ∧ w' = w := by
  have g1 := add_run w _ _ _ h1
  clear h1
  unfold zeroB at hz
  have hS := fun w => side20 sg r o up w hr
  rw [← hs] at hS
  have HE : Hid (∀ w, Calls Try.prog 34 #[.float .f64 a, .float .f64 b, .float .f64 s] w fun e w' => e = .returned (.float .f64 o) ∧ w' = w) := he
  have HS : Hid (∀ w, Calls Try.prog 33 #[.float .f64 s, .float .f64 o, .bool up] w fun e w' => e = .returned (.float .f64 (sideW sg r o up)) ∧ w' = w) := hS
  clear he hS hs hr
  generalize sideW sg r o up = res at *
  go_enter Try.func8, Try.ntmps8
  go_wp2_with (first | (go_at_call 31; refine (fin15 _ _).mono ?_; rintro e w' ⟨rfl, rfl⟩) | (go_at_call 34; refine (HE.out _).mono ?_; rintro e w' ⟨rfl, rfl⟩) | (go_at_call 33; refine (HS.out _).mono ?_; rintro e w' ⟨rfl, rfl⟩))
  go_ret
  exact ⟨rfl, rfl⟩
def oneUp (up : Bool) : Nat := if up then 4607182418800017409 else 4607182418800017408
theorem add10c (up : Bool) (w : World) : Calls Try.prog 8 #[.float .f64 4607182418800017408, .float .f64 4336966441157787648, .bool up] w fun e w' => e = .returned (.float .f64 (oneUp up)) ∧ w' = w := by
  have h := add10 4607182418800017408 4336966441157787648 4607182418800017408 4336966441157787648 false 4607182418800017408 up w (by decide +kernel) (by decide +kernel) (by decide +kernel) (by decide +kernel) rfl (by omega)
    (fun w => err21_keep _ _ _ 0 _ w (by decide +kernel) (by decide +kernel) (by decide +kernel))
  have e : sideW false 4607182418800017408 4336966441157787648 up = oneUp up := by cases up <;> decide +kernel
  rw [e] at h
  exact h
theorem next5c (w : World) : Calls Try.prog 27 #[.float .f64 4607182418800017408, .bool false] w fun e w' => e = .returned (.float .f64 4607182418800017407) ∧ w' = w := by
  have h := next5 false 4607182418800017408 false w (by omega)
  have e : nextW false 4607182418800017408 false = 4607182418800017407 := by decide +kernel
  rw [e] at h
  exact h
theorem near6c (w : World) : Calls Try.prog 28 #[.float .f64 4612811918334230528] w fun e w' => e = .returned (.tuple #[.int .i64 2, .float .f64 4602678819172646912, .int .i64 0]) ∧ w' = w := by
  have h := near6 false 4612811918334230528 4602678819172646912 w (by omega) (by omega) (by decide +kernel)
  have e : sgnI false (evN 4612811918334230528) = 2 := by decide +kernel
  rw [e] at h
  exact h
theorem whole9c (w : World) : Calls Try.prog 29 #[.float .f64 4613937818241073152] w fun e w' => e = .returned (.tuple #[.int .i64 3, .bool true]) ∧ w' = w := by
  have h := whole9_yes false 4613937818241073152 w (by omega) (by decide +kernel)
  have e : sgnI false (M 4613937818241073152 / U) = 3 := by decide +kernel
  rw [e] at h
  exact h
theorem awake4 (w : World) : Calls Try.prog 6 #[] w fun e w' => e = .returned (.bool true) ∧ w' = w := by
  have g1 := add_run w 4607182418800017408 4372995238176751616 4607182418800017409 (by decide +kernel)
  have g2 := sub_run w 4607182418800017408 4368491638549381120 4607182418800017407 (by decide +kernel)
  have e1 : (FloatKind.f64.format.order (oneUp true) 4607182418800017409 == some .eq) = true := by decide +kernel
  have e2 : (FloatKind.f64.format.order (oneUp false) 4607182418800017408 == some .eq) = true := by decide +kernel
  have e3 : (FloatKind.f64.format.order 4607182418800017407 4607182418800017407 == some .eq) = true := by decide +kernel
  have e4 : (FloatKind.f64.format.order 4602678819172646912 4602678819172646912 == some .eq) = true := by decide +kernel
  go_enter Try.func6, Try.ntmps6
  go_wp2_with (first | (go_at_call 28; refine (near6c _).mono ?_; rintro e w' ⟨rfl, rfl⟩) | (go_at_call 29; refine (whole9c _).mono ?_; rintro e w' ⟨rfl, rfl⟩) | (go_at_call 8; refine (add10c _ _).mono ?_; rintro e w' ⟨rfl, rfl⟩) | (go_at_call 27; refine (next5c _).mono ?_; rintro e w' ⟨rfl, rfl⟩))
  go_ret
  exact ⟨rfl, rfl⟩

/-- there, and back -/
theorem next_facts (s : Bool) (r : Nat) (up : Bool) (h : r ≤ 9218868437227405312) : ∃ s2 r2, r2 ≤ 9218868437227405312 ∧ nextW s r up = W s2 r2 ∧
    ((r = 9218868437227405312 ∧ s2 = s ∧ r2 = r ∧ s = !up) ∨ ((if up then val s r < val s2 r2 else val s2 r2 < val s r) ∧ ∃ s3 r3, r3 ≤ 9218868437227405312 ∧ nextW s2 r2 (!up) = W s3 r3 ∧ val s3 r3 = val s r)) := by
  unfold nextW
  rw [if_neg (by omega)]
  by_cases h0 : r = 0
  · rw [if_pos h0]
    refine ⟨!up, 1, by omega, rfl, Or.inr ⟨?_, !up, 0, by omega, ?_, ?_⟩⟩
    · have := M_pos (r := 1) (by omega)
      subst h0
      rw [val_zero]
      cases up <;> unfold val <;> simp <;> omega
    · rw [if_neg (by omega), if_neg (by omega), if_neg (by cases up <;> simp)]
    · subst h0
      rw [val_zero, val_zero]
  rw [if_neg h0]
  by_cases hs : s = !up
  · rw [if_pos hs]
    by_cases hi : r = 9218868437227405312
    · rw [if_pos hi]
      exact ⟨s, r, h, rfl, Or.inl ⟨hi, rfl, rfl, hs⟩⟩
    · rw [if_neg hi]
      refine ⟨s, r + 1, by omega, rfl, Or.inr ⟨?_, s, r, h, ?_, rfl⟩⟩
      · have := M_lt_succ r
        subst hs
        cases up <;> unfold val <;> simp <;> omega
      · rw [if_neg (by omega), if_neg (by omega), if_neg (by subst hs; cases up <;> simp)]
        rfl
  · rw [if_neg hs]
    refine ⟨s, r - 1, by omega, rfl, Or.inr ⟨?_, s, r, h, ?_, rfl⟩⟩
    · have := M_lt (show r - 1 < r by omega)
      have hs' : s = up := by cases s <;> cases up <;> simp at hs <;> rfl
      subst hs'
      cases s <;> unfold val <;> simp <;> omega
    · have hs' : s = up := by cases s <;> cases up <;> simp at hs <;> rfl
      subst hs'
      rw [if_neg (by omega)]
      by_cases h1 : r - 1 = 0
      · rw [if_pos h1]
        have : r = 1 := by omega
        subst this
        cases s <;> rfl
      · rw [if_neg h1, if_pos (by cases s <;> rfl), if_neg (by omega)]
        congr 1
        omega
end Go.Proofs.Yteompnpfoplppaa
