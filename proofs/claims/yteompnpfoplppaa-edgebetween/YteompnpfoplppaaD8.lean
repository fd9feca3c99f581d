import Derived.Test.YteompnpfoplppaaD7
namespace Go.Proofs.Yteompnpfoplppaa
open Go.RowKit
open Ieee
set_option linter.unusedVariables false

theorem fmaX_dvd (s t u : Bool) (a b c : Nat) (h : U ∣ M a * M b) : fmaX s t u a b c = 0 ∨ U ≤ (fmaX s t u a b c).natAbs := by
  have h1 : (U : Int) ∣ ((M a * M b : Nat) : Int) := Int.natCast_dvd_natCast.2 h
  have h2 : (U : Int) ∣ fmaX s t u a b c := by
    unfold fmaX
    refine Int.dvd_add ?_ (Int.dvd_mul_left ..)
    split
    · exact Int.dvd_neg.2 h1
    · exact h1
  obtain ⟨k, hk⟩ := h2
  by_cases hz : k = 0
  · left; rw [hk, hz, Int.mul_zero]
  · right
    rw [hk, Int.natAbs_mul, Int.natAbs_natCast]
    exact Nat.le_mul_of_pos_right _ (by omega)

theorem scaled {a b c d K1 K2 : Nat} (h1 : 0 < K1) (h2 : 0 < K2) (e1 : a * K1 = b * K2) (e2 : c * K1 = d * K2) : (a < c ↔ b < d) ∧ (c < a ↔ d < b) := by
  constructor
  · constructor
    · intro h
      have := Nat.mul_lt_mul_of_pos_right h h1
      rw [e1, e2] at this
      exact Nat.lt_of_mul_lt_mul_right this
    · intro h
      have := Nat.mul_lt_mul_of_pos_right h h2
      rw [← e1, ← e2] at this
      exact Nat.lt_of_mul_lt_mul_right this
  · constructor
    · intro h
      have := Nat.mul_lt_mul_of_pos_right h h1
      rw [e1, e2] at this
      exact Nat.lt_of_mul_lt_mul_right this
    · intro h
      have := Nat.mul_lt_mul_of_pos_right h h2
      rw [← e1, ← e2] at this
      exact Nat.lt_of_mul_lt_mul_right this

theorem pick_out (x : Bool) (z y n k c : Nat) (hc : c < 9218868437227405312) (k1 : z < y ↔ n < k) (k2 : y < z ↔ k < n) :
    (if x then decide ((if x then (y : Int) - (z : Int) else (z : Int) - (y : Int)) < 0) else decide (0 < (if x then (y : Int) - (z : Int) else (z : Int) - (y : Int)))) = decide (c < 9218868437227405312 ∧ k < n) := by
  cases x <;> simp only [Bool.false_eq_true, if_false, if_true] <;> exact decide_eq_decide.2 (by omega)
theorem pick_in (x : Bool) (z y n k c : Nat) (hc : c < 9218868437227405312) (k1 : z < y ↔ n < k) (k2 : y < z ↔ k < n) :
    (if x then decide (0 < (if x then (y : Int) - (z : Int) else (z : Int) - (y : Int))) else decide ((if x then (y : Int) - (z : Int) else (z : Int) - (y : Int)) < 0)) = decide (c = 9218868437227405312 ∨ n < k) := by
  cases x <;> simp only [Bool.false_eq_true, if_false, if_true] <;> exact decide_eq_decide.2 (by omega)
theorem M_frac (m : Nat) (h : 4503599627370496 ≤ m) (h' : m < 9007199254740992) : M (1021 * 4503599627370496 + m) = m * 2 ^ E21 := M_at E21 m (Or.inl ⟨h, by omega⟩)
theorem frac_dvd (m n : Nat) (h : 4503599627370496 ≤ m) (h' : m < 9007199254740992) (g : 4503599627370496 ≤ n) (g' : n < 9007199254740992) : U ∣ M (1021 * 4503599627370496 + m) * M (1021 * 4503599627370496 + n) := by
  rw [M_frac m h h', M_frac n g g', Nat.mul_mul_mul_comm, ← Nat.pow_add]
  unfold U
  exact Nat.dvd_trans (Nat.pow_dvd_pow 2 (by decide)) (Nat.dvd_mul_left ..)

theorem fma_inf (s t u : Bool) (a b : Nat) (ha : a < 9218868437227405312) (hb : b < 9218868437227405312) : double.fma (W s a) (W t b) (W u 9218868437227405312) = some (W u 9218868437227405312) := by
  unfold Format.fma
  rw [read_fin s a ha, read_fin t b hb, read_inf]
  cases u <;> rfl

/-- Frexp of any finite float -/
theorem frexp_any (s : Bool) (r : Nat) (hr : r < 9218868437227405312) : ∃ f, ∃ e : Int, f < 9218868437227405312 ∧ -3000 ≤ e ∧ e ≤ 3000 ∧ (r = 0 → f = 0) ∧
    ∀ w, Calls Try.prog 63 #[.float .f64 (W s r)] w fun e' w' => e' = .returned (.tuple #[.float .f64 (W s f), .int .i64 e]) ∧ w' = w := by
  by_cases h0 : r = 0
  · subst h0
    exact ⟨0, 0, by omega, by omega, by omega, fun _ => rfl, fun w => frexp69 _ _ _ w fun w => frexp85z _ w (by rw [zeroB_W s 0 (by omega)]; rfl)⟩
  · obtain ⟨m, P, h1, h2, h3, h4, h5⟩ := frexp_spec s r (by omega) hr
    exact ⟨_, _, by omega, by omega, by omega, fun h => absurd h h0, h5⟩

/-- what the product's error says -/
theorem mul_err (s t : Bool) (a b c : Nat) (ha : a < 9218868437227405312) (hb : b < 9218868437227405312) (hn : Near (M a * M b) U c) (hhalf : 0 < c → c < 9218868437227405312 → M c * U ≤ 2 * (M a * M b)) :
    ∃ o, (∀ w, Calls Try.prog 42 #[.float .f64 (W s a), .float .f64 (W t b), .float .f64 (W (s ^^ t) c)] w fun e w' => e = .returned (.float .f64 o) ∧ w' = w) ∧
      (if (s ^^ t) then negB o else posB o) = decide (c < 9218868437227405312 ∧ M c * U < M a * M b) ∧
      (if (s ^^ t) then posB o else negB o) = decide (c = 9218868437227405312 ∨ M a * M b < M c * U) := by
  have hU := U_pos
  obtain ⟨hn1, hn2, hn3⟩ := hn
  by_cases hz : a = 0 ∨ b = 0
  · have hN : M a * M b = 0 := by
      rcases hz with h | h
      · rw [h, M_zero, Nat.zero_mul]
      · rw [h, M_zero, Nat.mul_zero]
    have hc : c = 0 := by
      refine Nat.eq_zero_of_not_pos fun hp => ?_
      have := hn3 hp
      omega
    subst hc
    obtain ⟨fa, ea, a1, a2, a3, a4, a5⟩ := frexp_any s a ha
    obtain ⟨fb, eb, b1, b2, b3, b4, b5⟩ := frexp_any t b hb
    have hP : M fa * M fb = 0 := by
      rcases hz with h | h
      · rw [a4 h, M_zero, Nat.zero_mul]
      · rw [b4 h, M_zero, Nat.mul_zero]
    have hX : fmaX s t (!(s ^^ t)) fa fb 0 = 0 := by
      unfold fmaX
      rw [hP, val_zero]
      simp
    obtain ⟨sg, d, g1, g2, g3, g4⟩ := fma_sign s t (!(s ^^ t)) fa fb 0 a1 b1 (by omega) (Or.inl hX)
    rw [hX] at g3 g4
    refine ⟨_, fun w => prod49 _ _ _ _ _ _ _ _ ea eb w a2 a3 b2 b3 a5 b5 (fun w => ldexp_same _ _ w (by rw [zeroB_W _ 0 (by omega)]; rfl)) (neg_W _ 0 (by omega)) g2, ?_, ?_⟩
    · rw [g3, g4, hN, M_zero, Nat.zero_mul]
      cases (s ^^ t) <;> rfl
    · rw [g3, g4, hN, M_zero, Nat.zero_mul]
      cases (s ^^ t) <;> rfl
  · have ha0 : 0 < a := by omega
    have hb0 : 0 < b := by omega
    have hNpos : 0 < M a * M b := Nat.mul_pos (M_pos ha0) (M_pos hb0)
    obtain ⟨ma, Pa, a1, a2, a3, a4, a5⟩ := frexp_spec s a ha0 ha
    obtain ⟨mb, Pb, b1, b2, b3, b4, b5⟩ := frexp_spec t b hb0 hb
    have hdv := frac_dvd ma mb a1 a2 b1 b2
    have hfpos : 0 < M (1021 * 4503599627370496 + ma) * M (1021 * 4503599627370496 + mb) := Nat.mul_pos (M_pos (by omega)) (M_pos (by omega))
    by_cases hcI : c = 9218868437227405312
    · subst hcI
      refine ⟨_, fun w => prod49 _ _ _ _ _ _ _ _ _ _ w (by omega) (by omega) (by omega) (by omega) a5 b5 (fun w => ldexp_same _ _ w (by
          rw [abs_W _ _ (by omega)]
          have := pinfB_W false 9218868437227405312 (by omega)
          rw [show W false 9218868437227405312 = 9218868437227405312 from rfl] at this
          rw [this, Bool.or_eq_true]
          exact Or.inr rfl)) (neg_W _ _ (by omega)) (fma_inf s t _ _ _ (by omega) (by omega)), ?_, ?_⟩
      · rw [negB_W _ _ (by omega), posB_W _ _ (by omega), decide_eq_false (p := 9218868437227405312 < 9218868437227405312 ∧ _) (by omega)]
        cases (s ^^ t) <;> rfl
      · rw [negB_W _ _ (by omega), posB_W _ _ (by omega), decide_eq_true (p := 9218868437227405312 = 9218868437227405312 ∨ _) (Or.inl rfl)]
        cases (s ^^ t) <;> rfl
    · by_cases hc0 : c = 0
      · subst hc0
        have hX : fmaX s t (!(s ^^ t)) (1021 * 4503599627370496 + ma) (1021 * 4503599627370496 + mb) 0 = if (s ^^ t) then -((M (1021 * 4503599627370496 + ma) * M (1021 * 4503599627370496 + mb) : Nat) : Int) else ((M (1021 * 4503599627370496 + ma) * M (1021 * 4503599627370496 + mb) : Nat) : Int) := by
          unfold fmaX
          rw [val_zero, Int.zero_mul, Int.add_zero]
        obtain ⟨sg, d, g1, g2, g3, g4⟩ := fma_sign s t (!(s ^^ t)) (1021 * 4503599627370496 + ma) (1021 * 4503599627370496 + mb) 0 (by omega) (by omega) (by omega) (fmaX_dvd _ _ _ _ _ _ hdv)
        rw [hX] at g3 g4
        refine ⟨_, fun w => prod49 _ _ _ _ _ _ _ _ _ _ w (by omega) (by omega) (by omega) (by omega) a5 b5 (fun w => ldexp_same _ _ w (by rw [zeroB_W _ 0 (by omega)]; rfl)) (neg_W _ 0 (by omega)) g2, ?_, ?_⟩
        · rw [g3, g4, M_zero, Nat.zero_mul, decide_eq_true (p := 0 < 9218868437227405312 ∧ _) ⟨by omega, hNpos⟩]
          generalize M (1021 * 4503599627370496 + ma) * M (1021 * 4503599627370496 + mb) = z at *
          cases (s ^^ t) <;> simp only [Bool.false_eq_true, if_false, if_true] <;> exact decide_eq_true (by omega)
        · rw [g3, g4, M_zero, Nat.zero_mul, decide_eq_false (p := 0 = 9218868437227405312 ∨ _) (by omega)]
          generalize M (1021 * 4503599627370496 + ma) * M (1021 * 4503599627370496 + mb) = z at *
          cases (s ^^ t) <;> simp only [Bool.false_eq_true, if_false, if_true] <;> exact decide_eq_false (by omega)
      · obtain ⟨mc, Pc, c1, c2, c3, c4, c5⟩ := ldexp_spec (s ^^ t) c (by omega) (by omega)
        have hN : M a * M b * 2 ^ 104 = ma * mb * 2 ^ (Pa + Pb) := by
          rw [show (104 : Nat) = 52 + 52 from rfl, Nat.pow_add, Nat.mul_mul_mul_comm, a4, b4, Nat.pow_add, Nat.mul_mul_mul_comm]
        have hC : M c * U * 2 ^ 104 = mc * 2 ^ (Pc + 1126) := by
          have e : Pc + 1126 = Pc + (52 + E74) := rfl
          rw [show (104 : Nat) = 52 + 52 from rfl, Nat.pow_add, e, Nat.pow_add, Nat.pow_add, ← Nat.mul_assoc mc, ← c4]
          unfold U
          rw [Nat.mul_mul_mul_comm, Nat.mul_comm (2 ^ E74) (2 ^ 52)]
        have r1 : M a * M b < 2 * (M c * U) := by
          refine Nat.lt_of_lt_of_le (hn2 (by omega)) ?_
          rw [← Nat.mul_assoc]
          exact Nat.mul_le_mul_right _ (M_dbl (by omega))
        obtain ⟨q1, q2⟩ := mul_range ma mb mc Pa Pb Pc _ _ a1 a2 b1 b2 c1 c2 hN hC (Nat.le_of_lt r1) (hhalf (by omega) (by omega))
        obtain ⟨Q, hQ⟩ : ∃ Q : Nat, Q + (Pa + Pb) = 2094 + Pc := ⟨2094 + Pc - (Pa + Pb), by omega⟩
        have hL := c5 (-((Pa : Int) - 1073) - ((Pb : Int) - 1073)) Q (by omega) (by omega) (by omega) (by omega)
        have hMq : M (Q * 4503599627370496 + mc) = mc * 2 ^ Q := M_at Q mc (Or.inl ⟨c1, by omega⟩)
        have e1 : M (1021 * 4503599627370496 + ma) * M (1021 * 4503599627370496 + mb) * 2 ^ (Pa + Pb) = M a * M b * (2 ^ 104 * 2 ^ (E21 + E21)) := by
          rw [M_frac ma a1 a2, M_frac mb b1 b2, Nat.mul_mul_mul_comm, ← Nat.pow_add, ← Nat.mul_assoc, hN, Nat.mul_right_comm]
        have e2 : M (Q * 4503599627370496 + mc) * U * 2 ^ (Pa + Pb) = M c * U * (2 ^ 104 * 2 ^ (E21 + E21)) := by
          rw [hMq, ← Nat.mul_assoc (M c * U), hC]
          unfold U
          rw [Nat.mul_assoc mc, ← Nat.pow_add, Nat.mul_assoc mc, ← Nat.pow_add, Nat.mul_assoc mc, ← Nat.pow_add]
          have e : Q + E74 + (Pa + Pb) = Pc + 1126 + (E21 + E21) := by
            have h1 : E74 = 1074 := rfl
            have h2 : E21 = 1021 := rfl
            omega
          rw [e]
        obtain ⟨k1, k2⟩ := scaled (Nat.two_pow_pos _) (Nat.mul_pos (Nat.two_pow_pos _) (Nat.two_pow_pos _)) e1 e2
        have hX : fmaX s t (!(s ^^ t)) (1021 * 4503599627370496 + ma) (1021 * 4503599627370496 + mb) (Q * 4503599627370496 + mc) = if (s ^^ t) then ((M (Q * 4503599627370496 + mc) * U : Nat) : Int) - ((M (1021 * 4503599627370496 + ma) * M (1021 * 4503599627370496 + mb) : Nat) : Int) else ((M (1021 * 4503599627370496 + ma) * M (1021 * 4503599627370496 + mb) : Nat) : Int) - ((M (Q * 4503599627370496 + mc) * U : Nat) : Int) := by
          unfold fmaX
          rw [val_not, Int.neg_mul]
          unfold val
          rw [Int.natCast_mul (M (Q * 4503599627370496 + mc)) U]
          generalize (M (Q * 4503599627370496 + mc) : Int) = y
          generalize ((M (1021 * 4503599627370496 + ma) * M (1021 * 4503599627370496 + mb) : Nat) : Int) = z
          cases (s ^^ t) <;> simp only [Bool.false_eq_true, if_false, if_true]
          · rfl
          · rw [Int.neg_mul, Int.neg_neg, Int.sub_eq_add_neg, Int.add_comm]
        obtain ⟨sg, d, g1, g2, g3, g4⟩ := fma_sign s t (!(s ^^ t)) (1021 * 4503599627370496 + ma) (1021 * 4503599627370496 + mb) (Q * 4503599627370496 + mc) (by omega) (by omega) (by omega) (fmaX_dvd _ _ _ _ _ _ hdv)
        rw [hX] at g3 g4
        refine ⟨_, fun w => prod49 _ _ _ _ _ _ _ _ _ _ w (by omega) (by omega) (by omega) (by omega) a5 b5 hL (neg_W _ _ (by omega)) g2, ?_, ?_⟩
        · rw [g3, g4]; exact pick_out _ _ _ _ _ c (by omega) k1 k2
        · rw [g3, g4]; exact pick_in _ _ _ _ _ c (by omega) k1 k2
end Go.Proofs.Yteompnpfoplppaa
