import Derived.Test.YtcgbdpgfpickaaaK03
namespace Go.Proofs.Ytcgbdpgfpickaaa.Fl
open Go.RowKit
open Ieee
set_option linter.unusedVariables false

/-- a NaN's word -/
def NanW (v : Nat) : Prop := ∃ s r, v = W s r ∧ 9218868437227405312 < r ∧ r < 9223372036854775808
/-- a float that is told: this one, or some NaN -/
def OkR (o : Option Nat) (v : Nat) : Prop := match o with
  | some x => v = x
  | none => NanW v
theorem nanW_nan {v : Nat} (h : NanW v) : nanB v = true := by
  obtain ⟨s, r, rfl, h1, h2⟩ := h
  rw [nanB_W s r h2]
  exact decide_eq_true h1
theorem nan_drawn (op : BinOp) (hop : op = .add ∨ op = .sub ∨ op = .mul ∨ op = .quo) (t : TypeId) (x y : Nat) (w : World) (h : floatBits op .f64 x y = none) :
    ∃ r, (binOp op t (.float .f64 x) (.float .f64 y)).run Try.prog w = .ok (.float .f64 r) w.drew ∧ NanW r := by
  refine ⟨Question.cut (.nanBits .f64 x y) (w.tape w.drawn (.nanBits .f64 x y)), ?_, ?_⟩
  · rcases hop with rfl | rfl | rfl | rfl <;> (unfold floatBits at h; simp only at h; simp [binOp, Op.floatArith, h])
    all_goals exact fun hf => Bool.noConfusion (show false = true from hf)
  · have key : ∀ s k : Nat, k < 4503599627370495 → s < 2 → NanW (s * 2 ^ 63 + 0x7ff0000000000000 + 1 + k) := by
      intro s k hk hs
      refine ⟨s == 1, 0x7ff0000000000000 + 1 + k, ?_, by omega, by omega⟩
      have : s = 0 ∨ s = 1 := by omega
      rcases this with rfl | rfl
      · show 0 * 2 ^ 63 + 0x7ff0000000000000 + 1 + k = 0x7ff0000000000000 + 1 + k
        omega
      · show 1 * 2 ^ 63 + 0x7ff0000000000000 + 1 + k = 9223372036854775808 + (0x7ff0000000000000 + 1 + k)
        omega
    exact key _ _ (by omega) (by omega)

theorem sign43 (s : Bool) (r : Nat) (w : World) (h : r < 9223372036854775808) : Calls Try.prog 67 #[.float .f64 (W s r)] w fun e w' => e = .returned (.bool s) ∧ w' = w := by
  have h1 := bits14
  have hw : wrap64 ((W s r : Nat) : Int) = (if s then (r : Int) - 9223372036854775808 else (r : Int)) := by
    unfold wrap64 W
    cases s <;> simp <;> omega
  cases s
  · simp only [Bool.false_eq_true, if_false] at hw
    have hl : ¬ (r : Int) < 0 := by omega
    go_enter Try.func67, Try.ntmps67
    go_wp2
    go_ret
    exact ⟨by simp, rfl⟩
  · simp only [if_true] at hw
    have hl : (r : Int) - 9223372036854775808 < 0 := by omega
    go_enter Try.func67, Try.ntmps67
    go_wp2
    go_ret
    exact ⟨by simp [hw], rfl⟩

theorem copy44 (w : World) : Calls Try.prog 14 #[.float .f64 0, .float .f64 13830554455654793216] w fun e w' => e = .returned (.float .f64 9223372036854775808) ∧ w' = w := by
  have h1 := bits14
  have h2 := from13
  go_enter Try.func14, Try.ntmps14
  go_wp2
  go_ret
  exact ⟨congrArg (fun z => Ending.returned (.float .f64 z)) (by decide +kernel), rfl⟩
theorem nought39 (s t : Bool) (a b : Nat) (up : Bool) (w : World) (ha : a < 9223372036854775808) (hb : b < 9223372036854775808) :
    Calls Try.prog 52 #[.float .f64 (W s a), .float .f64 (W t b), .bool up] w fun e w' => e = .returned (.float .f64 (if s = t then W s a else W (!up) 0)) ∧ w' = w := by
  have HA : Hid (∀ w, Calls Try.prog 67 #[.float .f64 (W s a)] w fun e w' => e = .returned (.bool s) ∧ w' = w) := fun w => sign43 s a w ha
  have HB : Hid (∀ w, Calls Try.prog 67 #[.float .f64 (W t b)] w fun e w' => e = .returned (.bool t) ∧ w' = w) := fun w => sign43 t b w hb
  generalize hx : W s a = x at *
  generalize W t b = y at *
  cases s <;> cases t <;> cases up
  all_goals
    go_enter Try.func52, Try.ntmps52
    go_wp2_with (first | (go_at_call 67; with_reducible refine (HA.out _).mono ?_; rintro e w' ⟨rfl, rfl⟩) | (go_at_call 67; with_reducible refine (HB.out _).mono ?_; rintro e w' ⟨rfl, rfl⟩) | (go_at_call 14; refine (copy44 _).mono ?_; rintro e w' ⟨rfl, rfl⟩))
    go_ret
    exact ⟨by first | rfl | decide, rfl⟩

/-- WHAT Add TELLS -/
def AddSpec (s : Bool) (a : Nat) (t : Bool) (b : Nat) (up : Bool) (o : Option Nat) : Prop :=
  if a < 9218868437227405312 ∧ b < 9218868437227405312 then
    if val s a + val t b = 0 then o = some (if s = t then W s a else W (!up) 0)
    else ∃ r, o = some (W (decide (val s a + val t b < 0)) r) ∧ Dir (up != decide (val s a + val t b < 0)) (val s a + val t b).natAbs 1 r
  else o = double.add (W s a) (W t b)

theorem add11_zero (a b s z : Nat) (up : Bool) (w : World) (ha : finB a = true) (hb : finB b = true) (h1 : double.add a b = some s) (hz : zeroB s = true)
    (he : ∀ w, Calls Try.prog 52 #[.float .f64 a, .float .f64 b, .bool up] w fun e w' => e = .returned (.float .f64 z) ∧ w' = w) :
    Calls Try.prog 40 #[.float .f64 a, .float .f64 b, .bool up] w fun e w' => e = .returned (.float .f64 z) ∧ w' = w := by
  have g1 := add_run w _ _ _ h1
  clear h1
  unfold zeroB at hz
  have HE : Hid (∀ w, Calls Try.prog 52 #[.float .f64 a, .float .f64 b, .bool up] w fun e w' => e = .returned (.float .f64 z) ∧ w' = w) := he
  clear he
  go_enter Try.func40, Try.ntmps40
  go_wp2_with (first | (go_at_call 47; refine (fin15 _ _).mono ?_; rintro e w' ⟨rfl, rfl⟩) | (go_at_call 52; refine (HE.out _).mono ?_; rintro e w' ⟨rfl, rfl⟩))
  go_ret
  exact ⟨rfl, rfl⟩
theorem add11_not (a b v : Nat) (up : Bool) (w w2 : World) (h : (finB a && finB b) = false) (h1 : (binOp .add 22 (.float .f64 a) (.float .f64 b)).run Try.prog w = .ok (.float .f64 v) w2) :
    Calls Try.prog 40 #[.float .f64 a, .float .f64 b, .bool up] w fun e w' => e = .returned (.float .f64 v) ∧ w' = w2 := by
  cases ha : finB a
  · go_enter Try.func40, Try.ntmps40
    go_wp2_with (go_at_call 47; refine (fin15 _ _).mono ?_; rintro e w' ⟨rfl, rfl⟩)
    go_ret
    exact ⟨rfl, rfl⟩
  · have hb : finB b = false := by rw [ha, Bool.true_and] at h; exact h
    clear h
    go_enter Try.func40, Try.ntmps40
    go_wp2_with (go_at_call 47; refine (fin15 _ _).mono ?_; rintro e w' ⟨rfl, rfl⟩)
    go_ret
    exact ⟨rfl, rfl⟩

theorem add11_sem (s t : Bool) (a b : Nat) (up : Bool) (ha : a < 9218868437227405312) (hb : b < 9218868437227405312) (hT : val s a + val t b ≠ 0) :
    ∃ r, Dir (up != decide (val s a + val t b < 0)) (val s a + val t b).natAbs 1 r ∧
      ∀ w, Calls Try.prog 40 #[.float .f64 (W s a), .float .f64 (W t b), .bool up] w fun e w' => e = .returned (.float .f64 (W (decide (val s a + val t b < 0)) r)) ∧ w' = w := by
  obtain ⟨r, c, h1, h2, h3, h4⟩ := add_faithful s t a b ha hb
  rw [if_neg hT] at h4
  have hfa : finB (W s a) = true := by rw [finB_W s a (by omega)]; exact decide_eq_true ha
  have hfb : finB (W t b) = true := by rw [finB_W t b (by omega)]; exact decide_eq_true hb
  have hnear : Near (val s a + val t b).natAbs 1 (min c 9218868437227405312) := near_of_faithful (r := r) (by omega) (by rw [Nat.mul_one]; exact h1) (by rw [Nat.mul_one]; exact h2) (by rw [Nat.mul_one]; exact h3)
  have hr : 0 < r := by
    refine Nat.pos_of_ne_zero fun h0 => ?_
    subst h0
    rw [show 0 + 1 = 1 from rfl, M_one] at h2
    omega
  have hz : zeroB (W (decide (val s a + val t b < 0)) (min c 9218868437227405312)) = false := by
    rw [zeroB_W _ _ (Nat.min_le_right ..)]
    exact decide_eq_false (by omega)
  have habs := B_lt false false a b (by omega) (by omega)
  rw [show W false a = absN (W s a) from (abs_W s a (by omega)).symm, show W false b = absN (W t b) from (abs_W t b (by omega)).symm] at habs
  by_cases hab : b ≤ a
  · obtain ⟨y, o, g1, g2, g3, g4⟩ := err_says s t a b r c ha hab hT h1 h2 h3
    have hM := M_le hab
    rw [decide_eq_false (by unfold val; simp; omega)] at habs
    obtain ⟨r', k1, k2⟩ := side_ok _ _ 1 _ o up (by omega) hnear g3 g4
    refine ⟨r', k2, fun w => ?_⟩
    have := add10 _ _ _ o _ _ up w hfa hfb h4 hz rfl (by omega) (fun w => err21_keep _ _ _ y o w habs g1 g2)
    rw [k1] at this
    exact this
  · have hT' : val t b + val s a ≠ 0 := by rw [Int.add_comm]; exact hT
    obtain ⟨y, o, g1, g2, g3, g4⟩ := err_says t s b a r c hb (by omega) hT' (by rw [Int.add_comm]; exact h1) (by rw [Int.add_comm]; exact h2) (by rw [Int.add_comm]; exact h3)
    rw [Int.add_comm (val t b)] at g1 g3 g4
    have hM := M_lt (show a < b by omega)
    rw [decide_eq_true (by unfold val; simp; omega)] at habs
    obtain ⟨r', k1, k2⟩ := side_ok _ _ 1 _ o up (by omega) hnear g3 g4
    refine ⟨r', k2, fun w => ?_⟩
    have := add10 _ _ _ o _ _ up w hfa hfb h4 hz rfl (by omega) (fun w => err41_swap _ _ _ y o w habs g1 g2)
    rw [k1] at this
    exact this

theorem add11_spec (s t : Bool) (a b : Nat) (up : Bool) (ha : a < 9223372036854775808) (hb : b < 9223372036854775808) :
    ∃ o, AddSpec s a t b up o ∧ ∀ w, Calls Try.prog 40 #[.float .f64 (W s a), .float .f64 (W t b), .bool up] w fun e w' => ∃ v, e = .returned (.float .f64 v) ∧ OkR o v ∧ Grown w w' := by
  by_cases hf : a < 9218868437227405312 ∧ b < 9218868437227405312
  · by_cases hT : val s a + val t b = 0
    · refine ⟨some (if s = t then W s a else W (!up) 0), by unfold AddSpec; rw [if_pos hf, if_pos hT], fun w => ?_⟩
      have hfa : finB (W s a) = true := by rw [finB_W s a (by omega)]; exact decide_eq_true hf.1
      have hfb : finB (W t b) = true := by rw [finB_W t b (by omega)]; exact decide_eq_true hf.2
      have h4 := add_exact s t a b 0 hf.1 hf.2 (by omega) (by rw [hT]; rfl)
      refine (add11_zero _ _ _ _ up w hfa hfb h4 (by rw [zeroB_W _ _ (by omega)]; rfl) (fun w => nought39 s t a b up w (by omega) (by omega))).mono ?_
      rintro e w' ⟨rfl, rfl⟩
      exact ⟨_, rfl, rfl, Grown.refl _⟩
    · obtain ⟨r, h1, h2⟩ := add11_sem s t a b up hf.1 hf.2 hT
      refine ⟨some (W (decide (val s a + val t b < 0)) r), by unfold AddSpec; rw [if_pos hf, if_neg hT]; exact ⟨r, rfl, h1⟩, fun w => ?_⟩
      refine (h2 w).mono ?_
      rintro e w' ⟨rfl, rfl⟩
      exact ⟨_, rfl, rfl, Grown.refl _⟩
  · refine ⟨double.add (W s a) (W t b), by unfold AddSpec; rw [if_neg hf], fun w => ?_⟩
    have hfin : (finB (W s a) && finB (W t b)) = false := by
      rw [finB_W s a ha, finB_W t b hb, ← Bool.decide_and]
      exact decide_eq_false hf
    cases ho : double.add (W s a) (W t b) with
    | some v =>
      refine (add11_not _ _ v up w w hfin (add_run w _ _ _ ho)).mono ?_
      rintro e w' ⟨rfl, rfl⟩
      exact ⟨_, rfl, rfl, Grown.refl _⟩
    | none =>
      obtain ⟨v, h1, h2⟩ := nan_drawn .add (by simp) 22 (W s a) (W t b) w ho
      refine (add11_not _ _ v up w _ hfin h1).mono ?_
      rintro e w' ⟨rfl, rfl⟩
      exact ⟨_, rfl, h2, (Grown.refl _).drew⟩
end Go.Proofs.Ytcgbdpgfpickaaa.Fl
namespace Go.Proofs.Ytcgbdpgfpickaaa.Fl
open Go.RowKit
open Ieee
set_option linter.unusedVariables false

/-! PRODUCTS -/
theorem mul_W (s t : Bool) (a b : Nat) (ha : a < 9218868437227405312) (hb : b < 9218868437227405312) :
    double.mul (W s a) (W t b) = some (double.nearest (s ^^ t) (mant a * mant b) (-1074 + (ex a : Int) + (-1074 + (ex b : Int)))) := by
  unfold Format.mul
  rw [read_fin s a ha, read_fin t b hb]
  rfl
theorem mul_mag (a b : Nat) : mant a * mant b * 2 ^ (-1074 + (ex a : Int) + (-1074 + (ex b : Int)) + 1074 + (E74 : Nat)).toNat = M a * M b := by
  have e : (-1074 + (ex a : Int) + (-1074 + (ex b : Int)) + 1074 + (E74 : Nat)).toNat = ex a + ex b := by
    have := E74_eq
    omega
  rw [e]
  unfold M
  rw [Nat.pow_add]
  exact Nat.mul_mul_mul_comm ..
theorem mul_place (a b : Nat) : (0 : Int) ≤ -1074 + (ex a : Int) + (-1074 + (ex b : Int)) + 1074 + (E74 : Nat) := by
  have := E74_eq
  omega
theorem mul_exact (s t : Bool) (a b r : Nat) (ha : a < 9218868437227405312) (hb : b < 9218868437227405312) (hr : r ≤ 9218868437227405312) (h : M a * M b = M r * U) :
    double.mul (W s a) (W t b) = some (W (s ^^ t) r) := by
  rw [mul_W s t a b ha hb]
  refine congrArg some (nearest_exact _ _ _ E74 r (mul_place a b) hr ?_)
  rw [mul_mag]
  exact h
theorem mul_faithful (s t : Bool) (a b : Nat) (ha : a < 9218868437227405312) (hb : b < 9218868437227405312) :
    ∃ r c, M r * U ≤ M a * M b ∧ M a * M b < M (r + 1) * U ∧ (c = r ∨ (c = r + 1 ∧ M a * M b ≠ M r * U)) ∧ double.mul (W s a) (W t b) = some (W (s ^^ t) (min c 9218868437227405312)) := by
  obtain ⟨r, c, h1, h2, h3, h4⟩ := nearest_faithful (s ^^ t) (mant a * mant b) (-1074 + (ex a : Int) + (-1074 + (ex b : Int))) E74 (mul_place a b)
  rw [mul_mag] at h1 h2 h4
  exact ⟨r, c, h1, h2, h4, by rw [mul_W s t a b ha hb, h3]⟩
theorem mul_run (w : World) (x y r : Nat) (h : double.mul x y = some r) : (binOp .mul 22 (.float .f64 x) (.float .f64 y)).run Try.prog w = .ok (.float .f64 r) w :=
  run_float_arith (P := Try.prog) w .mul 22 .f64 x y r h

/-! BITS -/
theorem W_eq (s : Bool) (r : Nat) : W s r = s.toNat * 2 ^ 63 + r := by
  cases s
  · show r = _; simp
  · show 9223372036854775808 + r = _; simp
theorem bit_exp (s : Bool) (n : Nat) (h : n < 9223372036854775808) : bits BinOp.and IntKind.u64 ((W s n : Nat) / 4503599627370496 : Int) 2047 = ((n / 4503599627370496 : Nat) : Int) := by
  have e : ((W s n : Nat) / 4503599627370496 : Int) = ((W s n / 4503599627370496 : Nat) : Int) := by simp
  have hl := W_lt s n h
  rw [e, show (2047 : Int) = ((2047 : Nat) : Int) from rfl, u64_and_nat _ _ (by omega) (by omega)]
  have h2 := Nat.and_two_pow_sub_one_eq_mod (W s n / 4503599627370496) 11
  rw [show (2047 : Nat) = 2 ^ 11 - 1 from rfl, h2, W_eq]
  congr 1
  cases s <;> simp <;> omega
theorem bit_cut (s : Bool) (n : Nat) (h : n < 9223372036854775808) : bits BinOp.andNot IntKind.u64 (W s n : Nat) 9218868437227405312 = ((W s (n % 4503599627370496) : Nat) : Int) := by
  have hl := W_lt s n h
  rw [show (9218868437227405312 : Int) = ((9218868437227405312 : Nat) : Int) from rfl, u64_andNot_nat _ _ hl (by omega)]
  congr 1
  have e1 : (18446744073709551615 - 9218868437227405312 : Nat) = 2 ^ 63 ||| (2 ^ 52 - 1) := by decide
  rw [e1, Nat.and_or_distrib_left, Nat.and_two_pow_sub_one_eq_mod]
  have e2 : W s n &&& 2 ^ 63 = s.toNat * 2 ^ 63 := by
    apply Nat.eq_of_testBit_eq
    intro i
    rw [Nat.testBit_and, Nat.testBit_two_pow, W_eq]
    by_cases hi : 63 = i
    · subst hi
      rw [decide_eq_true rfl, Bool.and_true]
      cases s
      · simp only [Bool.toNat_false, Nat.zero_mul, Nat.zero_add, Nat.zero_testBit]
        exact Nat.testBit_lt_two_pow h
      · simp only [Bool.toNat_true, Nat.one_mul]
        rw [Nat.testBit_two_pow_add_eq, Nat.testBit_lt_two_pow h, Nat.testBit_two_pow_self]
        rfl
    · rw [decide_eq_false hi, Bool.and_false]
      cases s
      · simp
      · simp only [Bool.toNat_true, Nat.one_mul]
        rw [Nat.testBit_two_pow, decide_eq_false hi]
  have e3 : W s n % 2 ^ 52 = n % 4503599627370496 := by
    rw [W_eq]; cases s <;> simp <;> omega
  rw [e2, e3]
  cases s
  · simp [W]
  · simp only [Bool.toNat_true, Nat.one_mul]
    have h6 := Nat.two_pow_add_eq_or_of_lt (i := 63) (b := n % 4503599627370496) (by omega) 1
    rw [Nat.mul_one] at h6
    rw [← h6]
    rfl
theorem bit_put (s : Bool) (y E : Nat) (hy : y < 4503599627370496) (hE : E < 2048) : bits BinOp.or IntKind.u64 (W s y : Nat) ((E * 4503599627370496 : Nat) : Int) = ((W s (E * 4503599627370496 + y) : Nat) : Int) := by
  have hl := W_lt s y (by omega)
  rw [u64_or_nat _ _ hl (by omega)]
  congr 1
  have e1 : E * 4503599627370496 = E <<< 52 := by rw [Nat.shiftLeft_eq]
  have e2 : W s y = (s.toNat * 2048) <<< 52 ||| y := by
    rw [← Nat.shiftLeft_add_eq_or_of_lt (i := 52) (by omega), Nat.shiftLeft_eq, W_eq]
    cases s <;> simp
  have e3 : s.toNat * 2048 ||| E = s.toNat * 2048 + E := by
    cases s
    · simp
    · simp only [Bool.toNat_true, Nat.one_mul]
      exact (Nat.two_pow_add_eq_or_of_lt (i := 11) (by omega) 1).symm ▸ rfl
  rw [e1, e2, Nat.or_assoc, Nat.or_comm y, ← Nat.or_assoc, ← Nat.shiftLeft_or_distrib, e3, ← Nat.shiftLeft_add_eq_or_of_lt (i := 52) (by omega), Nat.shiftLeft_eq, W_eq, Nat.shiftLeft_eq, Nat.add_mul, Nat.mul_assoc, Nat.add_assoc]
end Go.Proofs.Ytcgbdpgfpickaaa.Fl
namespace Go.Proofs.Ytcgbdpgfpickaaa.Fl
open Go.RowKit
open Ieee
set_option linter.unusedVariables false

theorem norm90s (x r : Nat) (w : World) (h : (FloatKind.f64.format.order (absN x) 4503599627370496 == some .lt) = true) (hm : double.mul x 4841369599423283200 = some r) :
    Calls Try.prog 50 #[.float .f64 x] w fun e w' => e = .returned (.tuple #[.float .f64 r, .int .i64 (-52)]) ∧ w' = w := by
  have g3 := mul_run w _ _ _ hm
  clear hm
  go_enter Try.func50, Try.ntmps50
  go_wp2_with (go_at_call 19; refine (abs16 _ _).mono ?_; rintro e w' ⟨rfl, rfl⟩)
  go_ret2
  exact ⟨rfl, rfl⟩
theorem norm90n (x : Nat) (w : World) (h : (FloatKind.f64.format.order (absN x) 4503599627370496 == some .lt) = false) :
    Calls Try.prog 50 #[.float .f64 x] w fun e w' => e = .returned (.tuple #[.float .f64 x, .int .i64 0]) ∧ w' = w := by
  go_enter Try.func50, Try.ntmps50
  go_wp2_with (go_at_call 19; refine (abs16 _ _).mono ?_; rintro e w' ⟨rfl, rfl⟩)
  go_ret2
  exact ⟨rfl, rfl⟩

theorem M_52 : M 4841369599423283200 = 4503599627370496 * U := by
  have h := M_at E74 4503599627370496 (Or.inl ⟨by omega, by omega⟩)
  have e : E74 * 4503599627370496 + 4503599627370496 = 4841369599423283200 := rfl
  rw [e] at h
  unfold U
  exact h

/-- a float that is not 0, its first digit at the front: m times 2 to the power (P - 52), in units of the least float -/
theorem norm_spec (s : Bool) (r : Nat) (h0 : 0 < r) (hr : r < 9218868437227405312) :
    ∃ n, ∃ k : Int, 4503599627370496 ≤ n ∧ n < 9218868437227405312 ∧ (k = 0 ∨ k = -52) ∧
      (∀ P : Nat, (P : Int) = (n / 4503599627370496 : Nat) - 1 + k + 52 → M r * 2 ^ 52 = (4503599627370496 + n % 4503599627370496) * 2 ^ P) ∧
      ∀ w, Calls Try.prog 50 #[.float .f64 (W s r)] w fun e w' => e = .returned (.tuple #[.float .f64 (W s n), .int .i64 k]) ∧ w' = w := by
  have habs := B_lt false false r 4503599627370496 (by omega) (by omega)
  rw [show W false r = absN (W s r) from (abs_W s r (by omega)).symm, show W false 4503599627370496 = 4503599627370496 from rfl] at habs
  have hv : (val false r < val false 4503599627370496) ↔ r < 4503599627370496 := by
    unfold val
    simp only [Bool.false_eq_true, if_false]
    rw [Int.ofNat_lt]
    exact M_lt_iff
  by_cases hs : r < 4503599627370496
  · rw [decide_eq_true (hv.2 hs)] at habs
    obtain ⟨n, hn, hn2⟩ := rep 52 r (by omega)
    have hMr : M r = r := by
      have := M_at 0 r (Or.inr ⟨rfl, by omega⟩)
      rw [Nat.zero_mul, Nat.zero_add] at this
      rw [this]; simp
    have hnI : n < 9218868437227405312 := by omega
    have hnB : 4503599627370496 ≤ n := by
      refine Nat.le_of_not_lt fun hlt => ?_
      have hMn : M n = n := by
        have := M_at 0 n (Or.inr ⟨rfl, by omega⟩)
        rw [Nat.zero_mul, Nat.zero_add] at this
        rw [this]; simp
      rw [hMn] at hn
      have : (2 : Nat) ^ 52 = 4503599627370496 := rfl
      rw [this] at hn
      omega
    refine ⟨n, -52, hnB, hnI, Or.inr rfl, ?_, fun w => norm90s _ _ w habs ?_⟩
    · intro P hP
      have hP' : P = ex n := by unfold ex; omega
      rw [hMr, ← hn, hP']
      unfold M mant
      rw [if_neg (by omega)]
    · have hx := mul_exact s false r 4841369599423283200 n hr (by omega) (by omega) (by
        rw [hMr, M_52, hn, ← Nat.mul_assoc])
      rw [Bool.xor_false] at hx
      exact hx
  · rw [decide_eq_false (fun h => hs (hv.1 h))] at habs
    refine ⟨r, 0, by omega, hr, Or.inl rfl, ?_, fun w => norm90n _ w habs⟩
    intro P hP
    have hP' : P = ex r + 52 := by unfold ex; omega
    rw [hP', Nat.pow_add, ← Nat.mul_assoc]
    congr 1
    unfold M mant
    rw [if_neg (by omega)]

theorem frexp85 (x f z E y : Nat) (k : Int) (w : World) (h0 : zeroB x = false) (h1 : pinfB (absN x) = false) (h2 : nanB x = false)
    (hn : ∀ w, Calls Try.prog 50 #[.float .f64 x] w fun e w' => e = .returned (.tuple #[.float .f64 f, .int .i64 k]) ∧ w' = w) (hk : k = 0 ∨ k = -52) (hE0 : E < 2048)
    (hE : bits BinOp.and IntKind.u64 ((f : Int) / 4503599627370496) 2047 = (E : Int)) (hc : bits BinOp.andNot IntKind.u64 (f : Int) 9218868437227405312 = (y : Int)) (hp : bits BinOp.or IntKind.u64 (y : Int) 4602678819172646912 = (z : Int)) :
    Calls Try.prog 79 #[.float .f64 x] w fun e w' => e = .returned (.tuple #[.float .f64 z, .int .i64 (k + (E - 1023 + 1))]) ∧ w' = w := by
  unfold zeroB at h0
  have b1 := bits14
  have b2 := from13
  have HN : Hid (∀ w, Calls Try.prog 50 #[.float .f64 x] w fun e w' => e = .returned (.tuple #[.float .f64 f, .int .i64 k]) ∧ w' = w) := hn
  clear hn
  have hk1 : -52 ≤ k := by omega
  have hk2 : k ≤ 0 := by omega
  clear hk
  go_enter Try.func79, Try.ntmps79
  go_wp2_with (first | (go_at_call 41; refine (inf12z _ _).mono ?_; rintro e w' ⟨rfl, rfl⟩) | (go_at_call 35; refine (nan11 _ _).mono ?_; rintro e w' ⟨rfl, rfl⟩) | (go_at_call 50; refine (HN.out _).mono ?_; rintro e w' ⟨rfl, rfl⟩))
  go_ret2
  exact ⟨rfl, rfl⟩
theorem frexp69 (x z : Nat) (k : Int) (w : World) (h : ∀ w, Calls Try.prog 79 #[.float .f64 x] w fun e w' => e = .returned (.tuple #[.float .f64 z, .int .i64 k]) ∧ w' = w) :
    Calls Try.prog 65 #[.float .f64 x] w fun e w' => e = .returned (.tuple #[.float .f64 z, .int .i64 k]) ∧ w' = w := by
  have H : Hid (∀ w, Calls Try.prog 79 #[.float .f64 x] w fun e w' => e = .returned (.tuple #[.float .f64 z, .int .i64 k]) ∧ w' = w) := h
  clear h
  go_enter Try.func65, Try.ntmps65
  go_wp2_with (go_at_call 79; refine (H.out _).mono ?_; rintro e w' ⟨rfl, rfl⟩)
  go_ret2
  exact ⟨rfl, rfl⟩
theorem frexp85z (x : Nat) (w : World) (h0 : zeroB x = true) :
    Calls Try.prog 79 #[.float .f64 x] w fun e w' => e = .returned (.tuple #[.float .f64 x, .int .i64 0]) ∧ w' = w := by
  unfold zeroB at h0
  go_enter Try.func79, Try.ntmps79
  go_wp2
  go_ret2
  exact ⟨rfl, rfl⟩
theorem fin_facts (s : Bool) (r : Nat) (h0 : 0 < r) (hr : r < 9218868437227405312) : zeroB (W s r) = false ∧ pinfB (absN (W s r)) = false ∧ nanB (W s r) = false := by
  refine ⟨?_, ?_, ?_⟩
  · rw [zeroB_W s r (by omega)]; exact decide_eq_false (by omega)
  · rw [abs_W s r (by omega)]
    have := pinfB_W false r (by omega)
    rw [show W false r = r from rfl] at this
    rw [this, decide_eq_false (by omega)]; rfl
  · rw [nanB_W s r (by omega)]; exact decide_eq_false (by omega)

/-- WHAT Frexp TELLS of what is not 0: m times 2^-53, and P - 1073 -/
theorem frexp_spec (s : Bool) (r : Nat) (h0 : 0 < r) (hr : r < 9218868437227405312) :
    ∃ m P : Nat, 4503599627370496 ≤ m ∧ m < 9007199254740992 ∧ P ≤ 2097 ∧ M r * 2 ^ 52 = m * 2 ^ P ∧
      ∀ w, Calls Try.prog 65 #[.float .f64 (W s r)] w fun e w' => e = .returned (.tuple #[.float .f64 (W s (1021 * 4503599627370496 + m)), .int .i64 ((P : Int) - 1073)]) ∧ w' = w := by
  obtain ⟨n, k, hB, hI, hk, hM, hC⟩ := norm_spec s r h0 hr
  obtain ⟨f1, f2, f3⟩ := fin_facts s r h0 hr
  have hE : n / 4503599627370496 < 2047 := by omega
  have hE1 : 1 ≤ n / 4503599627370496 := by omega
  refine ⟨4503599627370496 + n % 4503599627370496, ((n / 4503599627370496 : Nat) - 1 + k + 52).toNat, by omega, by omega, by omega, hM _ (by omega), fun w => ?_⟩
  have hput := bit_put s (n % 4503599627370496) 1022 (by omega) (by omega)
  rw [show ((1022 * 4503599627370496 : Nat) : Int) = 4602678819172646912 from rfl, show 1022 * 4503599627370496 + n % 4503599627370496 = 1021 * 4503599627370496 + (4503599627370496 + n % 4503599627370496) from by omega] at hput
  have := frexp69 _ _ _ w (fun w => frexp85 _ _ _ _ _ k w f1 f2 f3 hC hk (by omega) (bit_exp s n (by omega)) (bit_cut s n (by omega)) hput)
  have e : k + (((n / 4503599627370496 : Nat) : Int) - 1023 + 1) = ((((n / 4503599627370496 : Nat) : Int) - 1 + k + 52).toNat : Int) - 1073 := by omega
  rw [e] at this
  exact this

theorem ldexp87i (x : Nat) (e : Int) (w : World) (h : (zeroB x || pinfB (absN x)) = true) :
    Calls Try.prog 38 #[.float .f64 x, .int .i64 e] w fun e w' => e = .returned (.float .f64 x) ∧ w' = w := by
  unfold zeroB at h
  cases h0 : (FloatKind.f64.format.order x 0 == some .eq)
  · rw [h0, Bool.false_or] at h
    go_enter Try.func38, Try.ntmps38
    go_wp2_with (first | (go_at_call 41; refine (inf12z _ _).mono ?_; rintro e w' ⟨rfl, rfl⟩) | (go_at_call 35; refine (nan11 _ _).mono ?_; rintro e w' ⟨rfl, rfl⟩))
    go_ret
    exact ⟨rfl, rfl⟩
  · clear h
    go_enter Try.func38, Try.ntmps38
    go_wp2_with (first | (go_at_call 41; refine (inf12z _ _).mono ?_; rintro e w' ⟨rfl, rfl⟩) | (go_at_call 35; refine (nan11 _ _).mono ?_; rintro e w' ⟨rfl, rfl⟩))
    go_ret
    exact ⟨rfl, rfl⟩
theorem ldexp87 (x f z y : Nat) (e k E S : Int) (w : World) (h0 : zeroB x = false) (h1 : pinfB (absN x) = false) (h2 : nanB x = false)
    (hn : ∀ w, Calls Try.prog 50 #[.float .f64 x] w fun e w' => e = .returned (.tuple #[.float .f64 f, .int .i64 k]) ∧ w' = w) (he1 : -5000 ≤ e) (he2 : e ≤ 5000) (hk1 : -52 ≤ k) (hk2 : k ≤ 0)
    (hE : bits BinOp.and IntKind.i64 (wrap64 (↑f / 4503599627370496)) 2047 = E) (hE1 : 0 ≤ E) (hE2 : E ≤ 2047) (hS : e + k + (E - 1023) = S) (hS1 : -1022 ≤ S) (hS2 : S ≤ 1023)
    (hc : bits BinOp.andNot IntKind.u64 (f : Int) 9218868437227405312 = (y : Int)) (hp : bits BinOp.or IntKind.u64 (y : Int) ((S + 1023) * 4503599627370496) = (z : Int)) (hr : double.mul 4607182418800017408 z = some z) :
    Calls Try.prog 38 #[.float .f64 x, .int .i64 e] w fun e w' => e = .returned (.float .f64 z) ∧ w' = w := by
  have g := mul_run w _ _ _ hr
  clear hr
  unfold zeroB at h0
  have b1 := bits14
  have b2 := from13
  have HN : Hid (∀ w, Calls Try.prog 50 #[.float .f64 x] w fun e w' => e = .returned (.tuple #[.float .f64 f, .int .i64 k]) ∧ w' = w) := hn
  clear hn
  subst hS
  go_enter Try.func38, Try.ntmps38
  go_wp2_with (first | (go_at_call 41; refine (inf12z _ _).mono ?_; rintro e w' ⟨rfl, rfl⟩) | (go_at_call 35; refine (nan11 _ _).mono ?_; rintro e w' ⟨rfl, rfl⟩) | (go_at_call 50; refine (HN.out _).mono ?_; rintro e w' ⟨rfl, rfl⟩))
  go_ret
  exact ⟨rfl, rfl⟩
theorem ldexp71 (x z : Nat) (e : Int) (w : World) (h : ∀ w, Calls Try.prog 38 #[.float .f64 x, .int .i64 e] w fun e w' => e = .returned (.float .f64 z) ∧ w' = w) :
    Calls Try.prog 22 #[.float .f64 x, .int .i64 e] w fun e w' => e = .returned (.float .f64 z) ∧ w' = w := by
  have H : Hid (∀ w, Calls Try.prog 38 #[.float .f64 x, .int .i64 e] w fun e w' => e = .returned (.float .f64 z) ∧ w' = w) := h
  clear h
  go_enter Try.func22, Try.ntmps22
  go_wp2_with (go_at_call 38; refine (H.out _).mono ?_; rintro e w' ⟨rfl, rfl⟩)
  go_ret
  exact ⟨rfl, rfl⟩
end Go.Proofs.Ytcgbdpgfpickaaa.Fl
