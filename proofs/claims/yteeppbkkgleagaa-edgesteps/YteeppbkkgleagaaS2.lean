import Derived.Test.YteeppbkkgleagaaS1
namespace Go.Proofs.Yteeppbkkgleagaa
open Go.RowKit
open Ieee
set_option linter.unusedVariables false

/-! NaN through Trunc and Whole -/
theorem trunc22_nan (s : Bool) (r : Nat) (w : World) (h : r < 9223372036854775808) (hn : 9218868437227405312 < r) :
    ∃ y, nanB y = true ∧ ((callFunc 76 #[.float .f64 (W s r)]).run Try.prog w = .ok (.value (.float .f64 y)) w ∨ (callFunc 76 #[.float .f64 (W s r)]).run Try.prog w = .ok (.value (.float .f64 y)) w.drew) := by
  have h1 : FloatKind.f64.decode (W s r) = .nan s (r - 9218868437227405312) := read_nanW s r h hn
  obtain ⟨y, hy, hrun⟩ := int_nan "math.archTrunc" .zero (W s r) h1 Try.prog w
  refine ⟨y, ?_, ?_⟩
  · rcases hy with rfl | rfl
    · rw [nanB_W s r h]; exact decide_eq_true hn
    · exact quiet_nan _ _
  · rcases hrun with h2 | h2
    · left; rw [ext22, h2]; rfl
    · right; rw [ext22, h2]; rfl
theorem trunc18_nan (s : Bool) (r : Nat) (w : World) (h : r < 9223372036854775808) (hn : 9218868437227405312 < r) :
    Calls Try.prog 57 #[.float .f64 (W s r)] w fun e w' => ∃ y, e = .returned (.float .f64 y) ∧ nanB y = true ∧ Grown w w' := by
  obtain ⟨y, hy, h1 | h1⟩ := trunc22_nan s r w h hn
  · go_enter Try.func57, Try.ntmps57
    go_wp2
    go_ret
    exact ⟨y, rfl, hy, Grown.refl _⟩
  · go_enter Try.func57, Try.ntmps57
    go_wp2
    go_ret
    exact ⟨y, rfl, hy, (Grown.refl _).drew⟩
theorem whole9_nan (s : Bool) (r : Nat) (w : World) (h : r < 9223372036854775808) (hn : 9218868437227405312 < r) :
    Calls Try.prog 25 #[.float .f64 (W s r)] w fun e w' => e = .returned (.tuple #[.int .i64 0, .bool false]) ∧ Grown w w' := by
  have hb := bigB_W s r h
  rw [decide_eq_false (p := r ≤ 9218868437227405312) (by omega), Bool.and_false] at hb
  unfold bigB at hb
  have ho : ∀ y, (FloatKind.f64.format.order (W s r) y != some .eq) = true := by
    intro y
    rw [f64_format, order_nan_left s r y h hn]
    rfl
  go_enter Try.func25, Try.ntmps25
  go_wp2_with (first | (go_at_call 56; refine (abs16 _ _).mono ?_; rintro e w' ⟨rfl, rfl⟩) | (go_at_call 57; refine (trunc18_nan _ _ _ h hn).mono ?_; rintro e w' ⟨y, rfl, hy, hg⟩))
  go_ret2
  exact ⟨rfl, hg⟩

/-! the document's Finite -/
theorem rfin42 (s : Bool) (r : Nat) (w : World) (h : r < 9218868437227405312) : Calls Try.prog 42 #[.float .f64 (W s r)] w fun e w' => e = .returned (.bool true) ∧ w' = w := by
  have h1 := sub_run w _ _ _ (sub_self s r h)
  have h2 : (FloatKind.f64.format.order 0 0 == some .eq) = true := by decide +kernel
  go_enter Try.func42, Try.ntmps42
  go_wp2
  go_ret
  exact ⟨rfl, rfl⟩
theorem sub_nan (s : Bool) (r : Nat) (x : Nat) (h : r < 9223372036854775808) (hn : 9218868437227405312 < r) : double.sub (W s r) x = none := by
  unfold Format.sub
  rw [read_nanW s r h hn]
  rfl
theorem rfin42_not (s : Bool) (r : Nat) (w : World) (h : r < 9223372036854775808) (hi : 9218868437227405312 ≤ r) : Calls Try.prog 42 #[.float .f64 (W s r)] w fun e w' => e = .returned (.bool false) ∧ w' = w.drew := by
  have h0 : double.sub (W s r) (W s r) = none := by
    by_cases hn : 9218868437227405312 < r
    · exact sub_nan s r _ h hn
    · have : r = 9218868437227405312 := by omega
      subst this
      exact sub_inf s
  obtain ⟨y, h1, h2⟩ := run_float_nan .sub (by simp) 22 (W s r) (W s r) w h0
  have h3 := nan_order y 0 h2
  go_enter Try.func42, Try.ntmps42
  go_wp2
  go_ret
  exact ⟨rfl, rfl⟩

/-! the document's Whole -/
theorem rwhole_nan (s : Bool) (r : Nat) (w : World) (h : r < 9223372036854775808) (hn : 9218868437227405312 < r) :
    Calls Try.prog 26 #[.float .f64 (W s r)] w fun e w' => e = .returned (.tuple #[.int .i64 0, .bool false]) ∧ w' = w := by
  have ho : ∀ y o, (FloatKind.f64.format.order (W s r) y == some o) = false := by
    intro y o
    rw [f64_format, order_nan_left s r y h hn]
    rfl
  have o1 := ho 14069245235905429504 .gt
  have o2 := ho 14069245235905429504 .eq
  clear ho
  go_enter Try.func26, Try.ntmps26
  go_wp2
  go_ret2
  exact ⟨rfl, rfl⟩
/-- how a float stands to both ends -/
theorem ends_W (s : Bool) (r : Nat) (h : r ≤ 9218868437227405312) :
    (FloatKind.f64.format.order (W s r) 14069245235905429504 == some .gt || FloatKind.f64.format.order (W s r) 14069245235905429504 == some .eq) = decide (-(M 4845873199050653696 : Int) ≤ val s r) ∧
    (FloatKind.f64.format.order (W s r) 4845873199050653696 == some .lt || FloatKind.f64.format.order (W s r) 4845873199050653696 == some .eq) = decide (val s r ≤ (M 4845873199050653696 : Int)) := by
  have b1 := B_gt s true r 4845873199050653696 h (by omega)
  have b2 := B_eq s true r 4845873199050653696 h (by omega)
  have b3 := B_lt s false r 4845873199050653696 h (by omega)
  have b4 := B_eq s false r 4845873199050653696 h (by omega)
  rw [show W true 4845873199050653696 = 14069245235905429504 from rfl] at b1 b2
  rw [show W false 4845873199050653696 = 4845873199050653696 from rfl] at b3 b4
  rw [b1, b2, b3, b4]
  have v1 : val true 4845873199050653696 = -(M 4845873199050653696 : Int) := rfl
  have v2 : val false 4845873199050653696 = (M 4845873199050653696 : Int) := rfl
  rw [v1, v2]
  generalize (M 4845873199050653696 : Int) = k
  generalize val s r = x
  constructor
  · rw [Bool.eq_iff_iff]; simp; omega
  · rw [Bool.eq_iff_iff]; simp; omega
theorem or_true_split {a b : Bool} (h : (a || b) = true) : a = true ∨ (a = false ∧ b = true) := by
  cases a <;> cases b <;> simp at *
theorem or_false_split {a b : Bool} (h : (a || b) = false) : a = false ∧ b = false := by
  cases a <;> cases b <;> simp at *
theorem rwhole_big (s : Bool) (r : Nat) (w : World) (h : 4845873199050653696 < r) (h' : r ≤ 9218868437227405312) :
    Calls Try.prog 26 #[.float .f64 (W s r)] w fun e w' => e = .returned (.tuple #[.int .i64 0, .bool false]) ∧ w' = w := by
  obtain ⟨b1, b2⟩ := ends_W s r h'
  have hM := M_lt h
  cases s
  · rw [decide_eq_true (by unfold val; simp only [Bool.false_eq_true, if_false]; omega)] at b1
    rw [decide_eq_false (by unfold val; simp only [Bool.false_eq_true, if_false]; omega)] at b2
    obtain ⟨c1, c2⟩ := or_false_split b2
    rcases or_true_split b1 with d1 | ⟨d1, d2⟩
    all_goals
      clear b1 b2
      go_enter Try.func26, Try.ntmps26
      go_wp2
      go_ret2
      exact ⟨rfl, rfl⟩
  · rw [decide_eq_false (by unfold val; simp only [if_true]; omega)] at b1
    obtain ⟨c1, c2⟩ := or_false_split b1
    clear b1 b2
    go_enter Try.func26, Try.ntmps26
    go_wp2
    go_ret2
    exact ⟨rfl, rfl⟩
theorem small_ends (s : Bool) (r : Nat) (h : r ≤ 4845873199050653696) :
    decide (-(M 4845873199050653696 : Int) ≤ val s r) = true ∧ decide (val s r ≤ (M 4845873199050653696 : Int)) = true := by
  have hM := M_le h
  constructor <;> refine decide_eq_true ?_ <;> unfold val <;> cases s <;> simp only [Bool.false_eq_true, if_false, if_true] <;> omega

theorem conv_int (s : Bool) (r : Nat) (w : World) (h : r ≤ 4845873199050653696) : (convert 22 2 (.float .f64 (W s r))).run Try.prog w = .ok (.int .i64 (sgnI s (M r / U))) w := by
  have hd := div_K h
  exact run_convert_float_int (P := Try.prog) w 22 2 .f64 .i64 (W s r) _ (by kernel_rfl) (by kernel_rfl) (toInt_W s r (by omega) (by omega))

theorem rwhole_ne (s : Bool) (r : Nat) (h : r ≤ 4845873199050653696) : (FloatKind.f64.format.order (floatOfInt .f64 (sgnI s (M r / U))) (W s r) != some .eq) = decide (M r % U ≠ 0) := by
  have hd := div_K h
  obtain ⟨h1, h2, _⟩ := ofN_spec (M r / U) hd
  have hv := val_flip s (M r / U) hd
  rw [floatOfInt_sgnI s _ hd, B_ne _ _ _ _ (by omega) (by omega), hv]
  refine decide_eq_decide.2 (not_congr ?_)
  have h3 := Nat.div_add_mod (M r) U
  have e : ((U * (M r / U) : Nat) : Int) = ((M r / U : Nat) : Int) * (U : Int) := by rw [Int.natCast_mul, Int.mul_comm]
  unfold sgnI val
  generalize hq : U * (M r / U) = q at *
  cases s
  · simp only [Bool.false_eq_true, if_false]
    rw [← e]; omega
  · simp only [if_true]
    rw [Int.neg_mul, ← e]; omega
theorem rwhole_small (s : Bool) (r : Nat) (w : World) (h : r ≤ 4845873199050653696) :
    Calls Try.prog 26 #[.float .f64 (W s r)] w fun e w' => e = .returned (if M r % U = 0 then .tuple #[.int .i64 (sgnI s (M r / U)), .bool true] else .tuple #[.int .i64 0, .bool false]) ∧ w' = w := by
  obtain ⟨b1, b2⟩ := ends_W s r (by omega)
  obtain ⟨c1, c2⟩ := small_ends s r h
  rw [c1] at b1
  rw [c2] at b2
  have hn := rwhole_ne s r h
  have hc := conv_int s r w h
  by_cases hm : M r % U = 0
  · rw [if_pos hm]
    rw [decide_eq_false (by omega)] at hn
    rcases or_true_split b1 with d1 | ⟨d1, d2⟩ <;> rcases or_true_split b2 with e1 | ⟨e1, e2⟩
    all_goals
      clear b1 b2 c1 c2
      go_enter Try.func26, Try.ntmps26
      go_wp2
      go_ret2
      exact ⟨rfl, rfl⟩
  · rw [if_neg hm]
    rw [decide_eq_true hm] at hn
    rcases or_true_split b1 with d1 | ⟨d1, d2⟩ <;> rcases or_true_split b2 with e1 | ⟨e1, e2⟩
    all_goals
      clear b1 b2 c1 c2
      go_enter Try.func26, Try.ntmps26
      go_wp2
      go_ret2
      exact ⟨rfl, rfl⟩
end Go.Proofs.Yteeppbkkgleagaa
