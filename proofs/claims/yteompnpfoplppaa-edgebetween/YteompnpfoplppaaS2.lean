import Derived.Test.YteompnpfoplppaaS1
namespace Go.Proofs.Yteompnpfoplppaa
open Go.RowKit
open Ieee
set_option linter.unusedVariables false

/-! NaN through Trunc and Whole -/
theorem rfin42 (s : Bool) (r : Nat) (w : World) (h : r < 9218868437227405312) : Calls Try.prog 35 #[.float .f64 (W s r)] w fun e w' => e = .returned (.bool true) ∧ w' = w := by
  have h1 := sub_run w _ _ _ (sub_self s r h)
  have h2 : (FloatKind.f64.format.order 0 0 == some .eq) = true := by decide +kernel
  go_enter Try.func35, Try.ntmps35
  go_wp2
  go_ret
  exact ⟨rfl, rfl⟩
theorem sub_nan (s : Bool) (r : Nat) (x : Nat) (h : r < 9223372036854775808) (hn : 9218868437227405312 < r) : double.sub (W s r) x = none := by
  unfold Format.sub
  rw [read_nanW s r h hn]
  rfl
theorem rfin42_not (s : Bool) (r : Nat) (w : World) (h : r < 9223372036854775808) (hi : 9218868437227405312 ≤ r) : Calls Try.prog 35 #[.float .f64 (W s r)] w fun e w' => e = .returned (.bool false) ∧ w' = w.drew := by
  have h0 : double.sub (W s r) (W s r) = none := by
    by_cases hn : 9218868437227405312 < r
    · exact sub_nan s r _ h hn
    · have : r = 9218868437227405312 := by omega
      subst this
      exact sub_inf s
  obtain ⟨y, h1, h2⟩ := run_float_nan .sub (by simp) 22 (W s r) (W s r) w h0
  have h3 := nan_order y 0 h2
  go_enter Try.func35, Try.ntmps35
  go_wp2
  go_ret
  exact ⟨rfl, rfl⟩

/-! the document's Whole -/
end Go.Proofs.Yteompnpfoplppaa
