import Derived.Test.YteompnpfoplppaaW5
import Derived.RowKit3
namespace Go.Proofs.Yteompnpfoplppaa
open Go.RowKit
open Ieee
set_option linter.unusedVariables false

theorem B_lt (s t : Bool) (a b : Nat) (ha : a ≤ 9218868437227405312) (hb : b ≤ 9218868437227405312) : (FloatKind.f64.format.order (W s a) (W t b) == some .lt) = decide (val s a < val t b) := by
  rw [f64_format, order_W s t a b ha hb]
  rcases Int.lt_trichotomy (val s a) (val t b) with h | h | h
  · rw [compare_lt h, decide_eq_true h]; rfl
  · rw [compare_eq h, decide_eq_false (by omega)]; rfl
  · rw [compare_gt h, decide_eq_false (by omega)]; rfl
theorem B_gt (s t : Bool) (a b : Nat) (ha : a ≤ 9218868437227405312) (hb : b ≤ 9218868437227405312) : (FloatKind.f64.format.order (W s a) (W t b) == some .gt) = decide (val t b < val s a) := by
  rw [f64_format, order_W s t a b ha hb]
  rcases Int.lt_trichotomy (val s a) (val t b) with h | h | h
  · rw [compare_lt h, decide_eq_false (by omega)]; rfl
  · rw [compare_eq h, decide_eq_false (by omega)]; rfl
  · rw [compare_gt h, decide_eq_true h]; rfl
theorem B_eq (s t : Bool) (a b : Nat) (ha : a ≤ 9218868437227405312) (hb : b ≤ 9218868437227405312) : (FloatKind.f64.format.order (W s a) (W t b) == some .eq) = decide (val s a = val t b) := by
  rw [f64_format, order_W s t a b ha hb]
  rcases Int.lt_trichotomy (val s a) (val t b) with h | h | h
  · rw [compare_lt h, decide_eq_false (by omega)]; rfl
  · rw [compare_eq h, decide_eq_true h]; rfl
  · rw [compare_gt h, decide_eq_false (by omega)]; rfl
theorem B_ne (s t : Bool) (a b : Nat) (ha : a ≤ 9218868437227405312) (hb : b ≤ 9218868437227405312) : (FloatKind.f64.format.order (W s a) (W t b) != some .eq) = decide (val s a ≠ val t b) := by
  rw [f64_format, order_W s t a b ha hb]
  rcases Int.lt_trichotomy (val s a) (val t b) with h | h | h
  · rw [compare_lt h, decide_eq_true (by omega)]; rfl
  · rw [compare_eq h, decide_eq_false (by omega)]; rfl
  · rw [compare_gt h, decide_eq_true (by omega)]; rfl

theorem z0 : (FloatKind.f64.format.order 0 0 == some .eq) = true := by decide +kernel

def E21 : Nat := 1021
theorem M_half : 2 * M 4602678819172646912 = U := by
  have h := M_at E21 4503599627370496 (Or.inl ⟨by omega, by omega⟩)
  have e : E21 * 4503599627370496 + 4503599627370496 = 4602678819172646912 := rfl
  rw [e] at h
  rw [h]
  unfold U
  have e2 : E74 = 53 + E21 := rfl
  rw [e2, Nat.pow_add, ← Nat.mul_assoc]
theorem val_sgnI (t : Bool) (c r : Nat) (h : M r = c * U) : val t r = sgnI t c * (U : Int) := by
  unfold val sgnI
  rw [h]
  cases t
  · simp
  · simp [Int.neg_mul]

theorem sgnI_abs (s : Bool) (c : Nat) : (sgnI s c).natAbs = c := by
  unfold sgnI; cases s <;> simp
theorem ofN_le (c : Nat) (h : c ≤ 9007199254740992) : ofN c ≤ 4845873199050653696 := by
  obtain ⟨h1, h2, _⟩ := ofN_spec c h
  refine Nat.le_of_not_lt fun hlt => ?_
  have := M_lt hlt
  rw [M_K, h1] at this
  have := Nat.mul_le_mul_right U h
  omega


theorem grown_trans {a b c : World} (h1 : Grown a b) (h2 : Grown b c) : Grown a c :=
  ⟨World.keptBut_trans h1.1 h2.1, fun x => (h2.2.1 x).trans (h1.2.1 x), Nat.le_trans h1.2.2 h2.2.2⟩

/-- a whole number's own sign, and its float -/
theorem sgnI_flip (s : Bool) (c : Nat) : sgnI (decide (sgnI s c < 0)) c = sgnI s c := by
  unfold sgnI
  cases s
  · simp only [Bool.false_eq_true, if_false]
    rw [decide_eq_false (by omega)]
    simp
  · simp only [if_true]
    by_cases h0 : c = 0
    · rw [h0]; rfl
    · rw [decide_eq_true (by omega)]
      rfl
theorem floatOfInt_sgnI (s : Bool) (c : Nat) (h : c ≤ 9007199254740992) : floatOfInt .f64 (sgnI s c) = W (decide (sgnI s c < 0)) (ofN c) := by
  have habs := sgnI_abs s c
  have := floatOfInt_W (sgnI s c) (by omega)
  rw [habs] at this
  exact this
theorem val_flip (s : Bool) (c : Nat) (h : c ≤ 9007199254740992) : val (decide (sgnI s c < 0)) (ofN c) = sgnI s c * (U : Int) := by
  rw [val_sgnI _ _ _ (ofN_spec c h).1, sgnI_flip]

/-- a float less a whole number: exact where the difference has a rung -/
theorem sub_whole (s : Bool) (r c d : Nat) (hr : r ≤ 4845873199050653696) (hc : c ≤ 9007199254740992) (hd : d < 9218868437227405312) (h : ((M r : Int) - ((c * U : Nat) : Int)).natAbs = M d) :
    ∃ sg, double.sub (W s r) (W (decide (sgnI s c < 0)) (ofN c)) = some (W sg d) := by
  obtain ⟨h1, h2, _⟩ := ofN_spec c hc
  have hv := val_flip s c hc
  generalize decide (sgnI s c < 0) = t at *
  refine ⟨(if val s r + val (!t) (ofN c) = 0 then s && !t else decide (val s r + val (!t) (ofN c) < 0)), ?_⟩
  rw [sub_W s t r _ h2]
  refine add_exact s (!t) r _ d (by omega) h2 (by omega) ?_
  rw [← h, val_not, hv]
  have e : ((c * U : Nat) : Int) = (c : Int) * (U : Int) := Int.natCast_mul c U
  rw [e]
  unfold val sgnI
  cases s
  · simp only [Bool.false_eq_true, if_false]
    generalize (c : Int) * (U : Int) = q
    generalize (M r : Int) = m
    rfl
  · simp only [if_true]
    rw [Int.neg_mul]
    generalize (c : Int) * (U : Int) = q
    generalize (M r : Int) = m
    omega
end Go.Proofs.Yteompnpfoplppaa
