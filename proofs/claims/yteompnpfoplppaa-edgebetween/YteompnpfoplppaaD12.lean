import Derived.Test.YteompnpfoplppaaD11
namespace Go.Proofs.Yteompnpfoplppaa
open Go.RowKit
open Ieee
set_option linter.unusedVariables false

theorem div17 (a b s o : Nat) (sg : Bool) (r : Nat) (up : Bool) (w : World) (ha : finB a = true) (hb : finB b = true) (hz : zeroB b = false) (h1 : double.div a b = some s) (hs : s = W sg r) (hr : r < 9223372036854775808)
    (he : ∀ w, Calls Try.prog 44 #[.float .f64 a, .float .f64 b, .float .f64 s] w fun e w' => e = .returned (.float .f64 o) ∧ w' = w) :
    Calls Try.prog 14 #[.float .f64 a, .float .f64 b, .bool up] w fun e w' => e = .returned (.float .f64 (sideW sg r o up)) ∧ w' = w := by
  have g1 := div_run w _ _ _ h1
  clear h1
  unfold zeroB at hz
  have hS := fun w => side20 sg r o up w hr
  rw [← hs] at hS
  have HE : Hid (∀ w, Calls Try.prog 44 #[.float .f64 a, .float .f64 b, .float .f64 s] w fun e w' => e = .returned (.float .f64 o) ∧ w' = w) := he
  have HS : Hid (∀ w, Calls Try.prog 33 #[.float .f64 s, .float .f64 o, .bool up] w fun e w' => e = .returned (.float .f64 (sideW sg r o up)) ∧ w' = w) := hS
  clear he hS hs hr
  generalize sideW sg r o up = res at *
  go_enter Try.func14, Try.ntmps14
  go_wp2_with (first | (go_at_call 31; refine (fin15 _ _).mono ?_; rintro e w' ⟨rfl, rfl⟩) | (go_at_call 44; refine (HE.out _).mono ?_; rintro e w' ⟨rfl, rfl⟩) | (go_at_call 33; refine (HS.out _).mono ?_; rintro e w' ⟨rfl, rfl⟩))
  go_ret
  exact ⟨rfl, rfl⟩
theorem div17_not (a b v : Nat) (up : Bool) (w w2 : World) (h : (finB a && finB b && !zeroB b) = false) (h1 : (binOp .quo 22 (.float .f64 a) (.float .f64 b)).run Try.prog w = .ok (.float .f64 v) w2) :
    Calls Try.prog 14 #[.float .f64 a, .float .f64 b, .bool up] w fun e w' => e = .returned (.float .f64 v) ∧ w' = w2 := by
  cases ha : finB a
  · go_enter Try.func14, Try.ntmps14
    go_wp2_with (go_at_call 31; refine (fin15 _ _).mono ?_; rintro e w' ⟨rfl, rfl⟩)
    go_ret
    exact ⟨rfl, rfl⟩
  · cases hb : finB b
    · go_enter Try.func14, Try.ntmps14
      go_wp2_with (go_at_call 31; refine (fin15 _ _).mono ?_; rintro e w' ⟨rfl, rfl⟩)
      go_ret
      exact ⟨rfl, rfl⟩
    · have hz : zeroB b = true := by rw [ha, hb] at h; simpa using h
      unfold zeroB at hz
      clear h
      go_enter Try.func14, Try.ntmps14
      go_wp2_with (go_at_call 31; refine (fin15 _ _).mono ?_; rintro e w' ⟨rfl, rfl⟩)
      go_ret
      exact ⟨rfl, rfl⟩

/-- WHAT Div TELLS -/
def DivSpec (s : Bool) (a : Nat) (t : Bool) (b : Nat) (up : Bool) (o : Option Nat) : Prop :=
  if a < 9218868437227405312 ∧ b < 9218868437227405312 ∧ 0 < b then ∃ r, o = some (W (s ^^ t) r) ∧ Dir (up != (s ^^ t)) (M a * U) (M b) r
  else o = double.div (W s a) (W t b)

theorem div_sem (s t : Bool) (a b : Nat) (up : Bool) (ha : a < 9218868437227405312) (hb : b < 9218868437227405312) (hb0 : 0 < b) :
    ∃ r, Dir (up != (s ^^ t)) (M a * U) (M b) r ∧
      ∀ w, Calls Try.prog 14 #[.float .f64 (W s a), .float .f64 (W t b), .bool up] w fun e w' => e = .returned (.float .f64 (W (s ^^ t) r)) ∧ w' = w := by
  obtain ⟨r, c, h1, h2, h3, h4⟩ := div_faithful s t a b ha hb hb0
  have hfa : finB (W s a) = true := by rw [finB_W s a (by omega)]; exact decide_eq_true ha
  have hfb : finB (W t b) = true := by rw [finB_W t b (by omega)]; exact decide_eq_true hb
  have hzb : zeroB (W t b) = false := by rw [zeroB_W t b (by omega)]; exact decide_eq_false (by omega)
  have hMb := M_pos hb0
  have hnear : Near (M a * U) (M b) (min c 9218868437227405312) := near_of_faithful (r := r) hMb h1 h2 h3
  have hhalf := near_half hnear (by
    intro hc
    refine Nat.le_of_not_lt fun hlt => ?_
    have ha0 : 0 < a := by
      refine Nat.pos_of_ne_zero fun h0 => ?_
      subst h0
      have := hnear.2.2 (by omega)
      rw [M_zero, Nat.zero_mul] at this
      omega
    have := div_tiny s t a b ha hb ha0 hb0 hlt
    rw [h4, hc] at this
    injection this with this
    have := W_inj this
    omega)
  obtain ⟨o, g1, g2, g3⟩ := div_err s t a b _ ha hb hb0 hnear hhalf
  obtain ⟨r', k1, k2⟩ := side_ok _ _ (M b) _ o up hMb hnear g2 g3
  refine ⟨r', k2, fun w => ?_⟩
  have := div17 _ _ _ o _ _ up w hfa hfb hzb h4 rfl (by omega) g1
  rw [k1] at this
  exact this

theorem div17_spec (s t : Bool) (a b : Nat) (up : Bool) (ha : a < 9223372036854775808) (hb : b < 9223372036854775808) :
    ∃ o, DivSpec s a t b up o ∧ ∀ w, Calls Try.prog 14 #[.float .f64 (W s a), .float .f64 (W t b), .bool up] w fun e w' => ∃ v, e = .returned (.float .f64 v) ∧ OkR o v ∧ Grown w w' := by
  by_cases hf : a < 9218868437227405312 ∧ b < 9218868437227405312 ∧ 0 < b
  · obtain ⟨r, h1, h2⟩ := div_sem s t a b up hf.1 hf.2.1 hf.2.2
    refine ⟨some (W (s ^^ t) r), by unfold DivSpec; rw [if_pos hf]; exact ⟨r, rfl, h1⟩, fun w => ?_⟩
    refine (h2 w).mono ?_
    rintro e w' ⟨rfl, rfl⟩
    exact ⟨_, rfl, rfl, Grown.refl _⟩
  · refine ⟨double.div (W s a) (W t b), by unfold DivSpec; rw [if_neg hf], fun w => ?_⟩
    have hfin : (finB (W s a) && finB (W t b) && !zeroB (W t b)) = false := by
      rw [finB_W s a ha, finB_W t b hb]
      by_cases hb1 : b < 9218868437227405312
      · rw [zeroB_W t b (by omega), ← Bool.decide_and, ← decide_not, ← Bool.decide_and]
        exact decide_eq_false (by omega)
      · rw [decide_eq_false hb1, Bool.and_false, Bool.false_and]
    cases ho : double.div (W s a) (W t b) with
    | some v =>
      refine (div17_not _ _ v up w w hfin (div_run w _ _ _ ho)).mono ?_
      rintro e w' ⟨rfl, rfl⟩
      exact ⟨_, rfl, rfl, Grown.refl _⟩
    | none =>
      obtain ⟨v, h1, h2⟩ := nan_drawn .quo (by simp) 22 (W s a) (W t b) w ho
      refine (div17_not _ _ v up w _ hfin h1).mono ?_
      rintro e w' ⟨rfl, rfl⟩
      exact ⟨_, rfl, h2, (Grown.refl _).drew⟩
end Go.Proofs.Yteompnpfoplppaa
