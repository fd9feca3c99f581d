import Derived.Test.YtaiflkpanankcaaDoorW1
namespace Go.Proofs.YtaiflkpanankcaaDoor.Fl
open Go.RowKit
open Ieee
set_option linter.unusedVariables false

theorem B_lt (s t : Bool) (a b : Nat) (ha : a ≤ 9218868437227405312) (hb : b ≤ 9218868437227405312) : (FloatKind.f64.format.order (W s a) (W t b) == some .lt) = decide (val s a < val t b) := by
  rw [f64_format, order_W s t a b ha hb]
  rcases Int.lt_trichotomy (val s a) (val t b) with h | h | h
  · rw [compare_lt h, decide_eq_true h]; rfl
  · rw [compare_eq h, decide_eq_false (by omega)]; rfl
  · rw [compare_gt h, decide_eq_false (by omega)]; rfl
theorem mul_W (s t : Bool) (a b : Nat) (ha : a < 9218868437227405312) (hb : b < 9218868437227405312) :
    double.mul (W s a) (W t b) = some (double.nearest (s ^^ t) (mant a * mant b) (-1074 + (ex a : Int) + (-1074 + (ex b : Int)))) := by
  unfold Format.mul
  rw [read_fin s a ha, read_fin t b hb]
  rfl
theorem mul_mag (a b : Nat) : mant a * mant b * 2 ^ (-1074 + (ex a : Int) + (-1074 + (ex b : Int)) + 1074 + (E74 : Nat)).toNat = M a * M b := by
  have e : (-1074 + (ex a : Int) + (-1074 + (ex b : Int)) + 1074 + (E74 : Nat)).toNat = ex a + ex b := by
    have := E74_eq
    omega
  rw [e]
  unfold M
  rw [Nat.pow_add]
  exact Nat.mul_mul_mul_comm ..
theorem mul_place (a b : Nat) : (0 : Int) ≤ -1074 + (ex a : Int) + (-1074 + (ex b : Int)) + 1074 + (E74 : Nat) := by
  have := E74_eq
  omega
theorem mul_exact (s t : Bool) (a b r : Nat) (ha : a < 9218868437227405312) (hb : b < 9218868437227405312) (hr : r ≤ 9218868437227405312) (h : M a * M b = M r * U) :
    double.mul (W s a) (W t b) = some (W (s ^^ t) r) := by
  rw [mul_W s t a b ha hb]
  refine congrArg some (nearest_exact _ _ _ E74 r (mul_place a b) hr ?_)
  rw [mul_mag]
  exact h
theorem mul_faithful (s t : Bool) (a b : Nat) (ha : a < 9218868437227405312) (hb : b < 9218868437227405312) :
    ∃ r c, M r * U ≤ M a * M b ∧ M a * M b < M (r + 1) * U ∧ (c = r ∨ (c = r + 1 ∧ M a * M b ≠ M r * U)) ∧ double.mul (W s a) (W t b) = some (W (s ^^ t) (min c 9218868437227405312)) := by
  obtain ⟨r, c, h1, h2, h3, h4⟩ := nearest_faithful (s ^^ t) (mant a * mant b) (-1074 + (ex a : Int) + (-1074 + (ex b : Int))) E74 (mul_place a b)
  rw [mul_mag] at h1 h2 h4
  exact ⟨r, c, h1, h2, h4, by rw [mul_W s t a b ha hb, h3]⟩
theorem mul_run (w : World) (x y r : Nat) (h : double.mul x y = some r) : (binOp .mul 41 (.float .f64 x) (.float .f64 y)).run Tryd.prog w = .ok (.float .f64 r) w :=
  run_float_arith (P := Tryd.prog) w .mul 41 .f64 x y r h

/-! BITS -/
theorem W_eq (s : Bool) (r : Nat) : W s r = s.toNat * 2 ^ 63 + r := by
  cases s
  · show r = _; simp
  · show 9223372036854775808 + r = _; simp
theorem bit_exp (s : Bool) (n : Nat) (h : n < 9223372036854775808) : bits BinOp.and IntKind.u64 ((W s n : Nat) / 4503599627370496 : Int) 2047 = ((n / 4503599627370496 : Nat) : Int) := by
  have e : ((W s n : Nat) / 4503599627370496 : Int) = ((W s n / 4503599627370496 : Nat) : Int) := by simp
  have hl := W_lt s n h
  rw [e, show (2047 : Int) = ((2047 : Nat) : Int) from rfl, u64_and_nat _ _ (by omega) (by omega)]
  have h2 := Nat.and_two_pow_sub_one_eq_mod (W s n / 4503599627370496) 11
  rw [show (2047 : Nat) = 2 ^ 11 - 1 from rfl, h2, W_eq]
  congr 1
  cases s <;> simp <;> omega
theorem bit_cut (s : Bool) (n : Nat) (h : n < 9223372036854775808) : bits BinOp.andNot IntKind.u64 (W s n : Nat) 9218868437227405312 = ((W s (n % 4503599627370496) : Nat) : Int) := by
  have hl := W_lt s n h
  rw [show (9218868437227405312 : Int) = ((9218868437227405312 : Nat) : Int) from rfl, u64_andNot_nat _ _ hl (by omega)]
  congr 1
  have e1 : (18446744073709551615 - 9218868437227405312 : Nat) = 2 ^ 63 ||| (2 ^ 52 - 1) := by decide
  rw [e1, Nat.and_or_distrib_left, Nat.and_two_pow_sub_one_eq_mod]
  have e2 : W s n &&& 2 ^ 63 = s.toNat * 2 ^ 63 := by
    apply Nat.eq_of_testBit_eq
    intro i
    rw [Nat.testBit_and, Nat.testBit_two_pow, W_eq]
    by_cases hi : 63 = i
    · subst hi
      rw [decide_eq_true rfl, Bool.and_true]
      cases s
      · simp only [Bool.toNat_false, Nat.zero_mul, Nat.zero_add, Nat.zero_testBit]
        exact Nat.testBit_lt_two_pow h
      · simp only [Bool.toNat_true, Nat.one_mul]
        rw [Nat.testBit_two_pow_add_eq, Nat.testBit_lt_two_pow h, Nat.testBit_two_pow_self]
        rfl
    · rw [decide_eq_false hi, Bool.and_false]
      cases s
      · simp
      · simp only [Bool.toNat_true, Nat.one_mul]
        rw [Nat.testBit_two_pow, decide_eq_false hi]
  have e3 : W s n % 2 ^ 52 = n % 4503599627370496 := by
    rw [W_eq]; cases s <;> simp <;> omega
  rw [e2, e3]
  cases s
  · simp [W]
  · simp only [Bool.toNat_true, Nat.one_mul]
    have h6 := Nat.two_pow_add_eq_or_of_lt (i := 63) (b := n % 4503599627370496) (by omega) 1
    rw [Nat.mul_one] at h6
    rw [← h6]
    rfl
theorem bit_put (s : Bool) (y E : Nat) (hy : y < 4503599627370496) (hE : E < 2048) : bits BinOp.or IntKind.u64 (W s y : Nat) ((E * 4503599627370496 : Nat) : Int) = ((W s (E * 4503599627370496 + y) : Nat) : Int) := by
  have hl := W_lt s y (by omega)
  rw [u64_or_nat _ _ hl (by omega)]
  congr 1
  have e1 : E * 4503599627370496 = E <<< 52 := by rw [Nat.shiftLeft_eq]
  have e2 : W s y = (s.toNat * 2048) <<< 52 ||| y := by
    rw [← Nat.shiftLeft_add_eq_or_of_lt (i := 52) (by omega), Nat.shiftLeft_eq, W_eq]
    cases s <;> simp
  have e3 : s.toNat * 2048 ||| E = s.toNat * 2048 + E := by
    cases s
    · simp
    · simp only [Bool.toNat_true, Nat.one_mul]
      exact (Nat.two_pow_add_eq_or_of_lt (i := 11) (by omega) 1).symm ▸ rfl
  rw [e1, e2, Nat.or_assoc, Nat.or_comm y, ← Nat.or_assoc, ← Nat.shiftLeft_or_distrib, e3, ← Nat.shiftLeft_add_eq_or_of_lt (i := 52) (by omega), Nat.shiftLeft_eq, W_eq, Nat.shiftLeft_eq, Nat.add_mul, Nat.mul_assoc, Nat.add_assoc]
end Go.Proofs.YtaiflkpanankcaaDoor.Fl
