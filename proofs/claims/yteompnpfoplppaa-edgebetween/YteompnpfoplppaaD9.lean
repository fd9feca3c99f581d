import Derived.Test.YteompnpfoplppaaD8
namespace Go.Proofs.Yteompnpfoplppaa
open Go.RowKit
open Ieee
set_option linter.unusedVariables false

theorem near_half {N D c : Nat} (hn : Near N D c) (h1 : c = 1 → D ≤ 2 * N) : 0 < c → c < 9218868437227405312 → M c * D ≤ 2 * N := by
  intro h0 _
  by_cases hc : c = 1
  · subst hc
    rw [M_one, Nat.one_mul]
    exact h1 rfl
  · have h2 := hn.2.2 h0
    have h3 := M_dbl (c := c - 1) (by omega)
    rw [show c - 1 + 1 = c from by omega] at h3
    have h4 : M c * D ≤ 2 * M (c - 1) * D := Nat.mul_le_mul_right _ h3
    rw [Nat.mul_assoc] at h4
    omega

theorem mul15 (a b s o : Nat) (sg : Bool) (r : Nat) (up : Bool) (w : World) (ha : finB a = true) (hb : finB b = true) (h1 : double.mul a b = some s) (hs : s = W sg r) (hr : r < 9223372036854775808)
    (he : ∀ w, Calls Try.prog 42 #[.float .f64 a, .float .f64 b, .float .f64 s] w fun e w' => e = .returned (.float .f64 o) ∧ w' = w) :
    Calls Try.prog 12 #[.float .f64 a, .float .f64 b, .bool up] w fun e w' => e = .returned (.float .f64 (sideW sg r o up)) ∧ w' = w := by
  have g1 := mul_run w _ _ _ h1
  clear h1
  have hS := fun w => side20 sg r o up w hr
  rw [← hs] at hS
  have HE : Hid (∀ w, Calls Try.prog 42 #[.float .f64 a, .float .f64 b, .float .f64 s] w fun e w' => e = .returned (.float .f64 o) ∧ w' = w) := he
  have HS : Hid (∀ w, Calls Try.prog 33 #[.float .f64 s, .float .f64 o, .bool up] w fun e w' => e = .returned (.float .f64 (sideW sg r o up)) ∧ w' = w) := hS
  clear he hS hs hr
  generalize sideW sg r o up = res at *
  go_enter Try.func12, Try.ntmps12
  go_wp2_with (first | (go_at_call 31; refine (fin15 _ _).mono ?_; rintro e w' ⟨rfl, rfl⟩) | (go_at_call 42; refine (HE.out _).mono ?_; rintro e w' ⟨rfl, rfl⟩) | (go_at_call 33; refine (HS.out _).mono ?_; rintro e w' ⟨rfl, rfl⟩))
  go_ret
  exact ⟨rfl, rfl⟩
theorem mul15_not (a b v : Nat) (up : Bool) (w w2 : World) (h : (finB a && finB b) = false) (h1 : (binOp .mul 22 (.float .f64 a) (.float .f64 b)).run Try.prog w = .ok (.float .f64 v) w2) :
    Calls Try.prog 12 #[.float .f64 a, .float .f64 b, .bool up] w fun e w' => e = .returned (.float .f64 v) ∧ w' = w2 := by
  cases ha : finB a
  · go_enter Try.func12, Try.ntmps12
    go_wp2_with (go_at_call 31; refine (fin15 _ _).mono ?_; rintro e w' ⟨rfl, rfl⟩)
    go_ret
    exact ⟨rfl, rfl⟩
  · have hb : finB b = false := by rw [ha, Bool.true_and] at h; exact h
    clear h
    go_enter Try.func12, Try.ntmps12
    go_wp2_with (go_at_call 31; refine (fin15 _ _).mono ?_; rintro e w' ⟨rfl, rfl⟩)
    go_ret
    exact ⟨rfl, rfl⟩

/-- WHAT Mul TELLS -/
def MulSpec (s : Bool) (a : Nat) (t : Bool) (b : Nat) (up : Bool) (o : Option Nat) : Prop :=
  if a < 9218868437227405312 ∧ b < 9218868437227405312 then ∃ r, o = some (W (s ^^ t) r) ∧ Dir (up != (s ^^ t)) (M a * M b) U r
  else o = double.mul (W s a) (W t b)

theorem mul_tiny (s t : Bool) (a b : Nat) (ha : a < 9218868437227405312) (hb : b < 9218868437227405312) (h : 2 * (M a * M b) < U) : double.mul (W s a) (W t b) = some (W (s ^^ t) 0) := by
  rw [mul_W s t a b ha hb]
  refine congrArg some (nearest_tiny _ _ _ E74 (mul_place a b) ?_)
  rw [mul_mag]
  exact h
theorem W_inj {s : Bool} {a b : Nat} (h : W s a = W s b) : a = b := by
  unfold W at h
  cases s <;> simp at h <;> omega

theorem mul_sem (s t : Bool) (a b : Nat) (up : Bool) (ha : a < 9218868437227405312) (hb : b < 9218868437227405312) :
    ∃ r, Dir (up != (s ^^ t)) (M a * M b) U r ∧
      ∀ w, Calls Try.prog 12 #[.float .f64 (W s a), .float .f64 (W t b), .bool up] w fun e w' => e = .returned (.float .f64 (W (s ^^ t) r)) ∧ w' = w := by
  obtain ⟨r, c, h1, h2, h3, h4⟩ := mul_faithful s t a b ha hb
  have hfa : finB (W s a) = true := by rw [finB_W s a (by omega)]; exact decide_eq_true ha
  have hfb : finB (W t b) = true := by rw [finB_W t b (by omega)]; exact decide_eq_true hb
  have hnear : Near (M a * M b) U (min c 9218868437227405312) := near_of_faithful (r := r) U_pos h1 h2 h3
  have hhalf := near_half hnear (by
    intro hc
    refine Nat.le_of_not_lt fun hlt => ?_
    have := mul_tiny s t a b ha hb hlt
    rw [h4, hc] at this
    injection this with this
    have := W_inj this
    omega)
  obtain ⟨o, g1, g2, g3⟩ := mul_err s t a b _ ha hb hnear hhalf
  obtain ⟨r', k1, k2⟩ := side_ok _ _ U _ o up U_pos hnear g2 g3
  refine ⟨r', k2, fun w => ?_⟩
  have := mul15 _ _ _ o _ _ up w hfa hfb h4 rfl (by omega) g1
  rw [k1] at this
  exact this

theorem mul15_spec (s t : Bool) (a b : Nat) (up : Bool) (ha : a < 9223372036854775808) (hb : b < 9223372036854775808) :
    ∃ o, MulSpec s a t b up o ∧ ∀ w, Calls Try.prog 12 #[.float .f64 (W s a), .float .f64 (W t b), .bool up] w fun e w' => ∃ v, e = .returned (.float .f64 v) ∧ OkR o v ∧ Grown w w' := by
  by_cases hf : a < 9218868437227405312 ∧ b < 9218868437227405312
  · obtain ⟨r, h1, h2⟩ := mul_sem s t a b up hf.1 hf.2
    refine ⟨some (W (s ^^ t) r), by unfold MulSpec; rw [if_pos hf]; exact ⟨r, rfl, h1⟩, fun w => ?_⟩
    refine (h2 w).mono ?_
    rintro e w' ⟨rfl, rfl⟩
    exact ⟨_, rfl, rfl, Grown.refl _⟩
  · refine ⟨double.mul (W s a) (W t b), by unfold MulSpec; rw [if_neg hf], fun w => ?_⟩
    have hfin : (finB (W s a) && finB (W t b)) = false := by
      rw [finB_W s a ha, finB_W t b hb, ← Bool.decide_and]
      exact decide_eq_false hf
    cases ho : double.mul (W s a) (W t b) with
    | some v =>
      refine (mul15_not _ _ v up w w hfin (mul_run w _ _ _ ho)).mono ?_
      rintro e w' ⟨rfl, rfl⟩
      exact ⟨_, rfl, rfl, Grown.refl _⟩
    | none =>
      obtain ⟨v, h1, h2⟩ := nan_drawn .mul (by simp) 22 (W s a) (W t b) w ho
      refine (mul15_not _ _ v up w _ hfin h1).mono ?_
      rintro e w' ⟨rfl, rfl⟩
      exact ⟨_, rfl, h2, (Grown.refl _).drew⟩
end Go.Proofs.Yteompnpfoplppaa
