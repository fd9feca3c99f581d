import Derived.Test.YtaiflkpanankcaaDoorFC
namespace Go.Proofs.YtaiflkpanankcaaDoor.Fl
open Go.RowKit
open Ieee
set_option linter.unusedVariables false

def E21 : Nat := 1021
theorem E21_eq : E21 = 1021 := rfl
theorem M_53 : M 4368491638549381120 = 2 ^ E21 := by
  have h := M_at (E21 - 52) 4503599627370496 (Or.inl ⟨by omega, by omega⟩)
  have e : (E21 - 52) * 4503599627370496 + 4503599627370496 = 4368491638549381120 := rfl
  rw [e] at h
  rw [h]
  have e2 : E21 = 52 + (E21 - 52) := rfl
  conv => rhs; rw [e2, Nat.pow_add]
theorem U_form : ∃ A : Nat, A = 1074 ∧ U = 2 ^ A := ⟨E74, E74_eq, by unfold U; rfl⟩
theorem M53_form : ∃ A1 : Nat, A1 = 1021 ∧ M 4368491638549381120 = 2 ^ A1 := ⟨E21, E21_eq, M_53⟩
theorem put_n {P Q : Nat} {last : Int} (hQ : (Q : Int) = last + P - 52) : (((Q + 1) * 4503599627370496 : Nat) : Int) = (((P : Int) + last - 1074) + 1023) * 4503599627370496 := by
  rw [Int.natCast_mul]
  congr 1
  omega
theorem put_s {P j : Nat} {last : Int} (hj : (j : Int) = 52 - (last + P)) (h : j ≤ 52) : (((54 - j) * 4503599627370496 : Nat) : Int) = (((P : Int) + last - 1074) + 53 + 1023) * 4503599627370496 := by
  rw [Int.natCast_mul]
  congr 1
  omega
theorem one_mul_exact (z : Nat) (hz : z < 9218868437227405312) : double.mul (W false 4607182418800017408) (W false z) = some (W (false ^^ false) z) :=
  mul_exact false false 4607182418800017408 _ _ (by omega) hz (Nat.le_of_lt hz) (by rw [M_1, Nat.mul_comm])
theorem small_fin : 4368491638549381120 < 9218868437227405312 := by omega
theorem put_e {Q n m : Nat} (hm : m = 4503599627370496 + n % 4503599627370496) : (Q + 1) * 4503599627370496 + n % 4503599627370496 = Q * 4503599627370496 + m := by
  rw [Nat.succ_mul]; omega
theorem sub_one {j : Nat} (h : j ≤ 52) : 54 - j = (53 - j) + 1 := by omega
theorem pow_cancel {a b k : Nat} (h : a * 2 ^ k = b * 2 ^ k) : a = b := Nat.eq_of_mul_eq_mul_right (Nat.two_pow_pos k) h
theorem pow_le_iff {a b : Nat} (h : 2 ^ a ≤ 2 ^ b) : a ≤ b := (Nat.pow_le_pow_iff_right (by omega)).1 h
/-- WHAT Ldexp TELLS of a whole number of at most 53 bits: the rung of it times that power, or the infinity -/
theorem ldexpN (r0 N R t : Nat) (last : Int) (hN0 : 0 < N) (hr0 : r0 < 9218868437227405312) (h0 : M r0 = N * U) (ht : (t : Int) = last + 1074) (hl : last ≤ 40000) (hR : M R = N * 2 ^ t) (w : World) :
    Calls Tryd.prog 46 #[.float .f64 (W false r0), .int .i64 last] w fun e w' => e = .returned (.float .f64 (min R 9218868437227405312)) ∧ w' = w := by
  obtain ⟨A, hA, hU⟩ : ∃ A : Nat, A = 1074 ∧ U = 2 ^ A := U_form
  obtain ⟨A1, hA1, hM53⟩ : ∃ A1 : Nat, A1 = 1021 ∧ M 4368491638549381120 = 2 ^ A1 := M53_form
  have hMinf : M 9218868437227405312 = 4503599627370496 * 2 ^ (A + 972) := by
    have := M_at (A + 972) 4503599627370496 (Or.inl ⟨by omega, by omega⟩)
    rw [show (A + 972) * 4503599627370496 + 4503599627370496 = 9218868437227405312 by omega] at this
    exact this
  have r00 : 0 < r0 := by
    refine Nat.pos_of_ne_zero fun h => ?_
    subst h
    rw [M_zero] at h0
    have := Nat.mul_pos hN0 U_pos
    omega
  obtain ⟨n, k, hB, hI, hk, hM, hC⟩ := norm_spec false r0 r00 hr0
  obtain ⟨f1, f2, f3⟩ := fin_facts false r0 r00 hr0
  have hE : n / 4503599627370496 < 2047 := by omega
  have hE1 : 1 ≤ n / 4503599627370496 := by omega
  obtain ⟨P, hP⟩ : ∃ P : Nat, (P : Int) = (n / 4503599627370496 : Nat) - 1 + k + 52 := ⟨((n / 4503599627370496 : Nat) - 1 + k + 52).toNat, by omega⟩
  have hM1 := hM P hP
  obtain ⟨m, hm⟩ : ∃ m, m = 4503599627370496 + n % 4503599627370496 := ⟨_, rfl⟩
  rw [← hm] at hM1
  have hm1 : 4503599627370496 ≤ m := by omega
  have hm2 : m < 9007199254740992 := by omega
  -- M R, by m
  have key : M R * 2 ^ (A + 52) = m * 2 ^ (P + t) := by
    rw [hR, Nat.pow_add 2 P, ← Nat.mul_assoc, ← hM1, h0, hU, Nat.pow_add]
    generalize 2 ^ A = a
    generalize 2 ^ t = b
    generalize (2 : Nat) ^ 52 = c
    ac_rfl
  have hS : last + k + (((n / 4503599627370496 : Nat) : Int) - 1023) = (P : Int) + last - 1074 := by omega
  by_cases c1 : 1023 < (P : Int) + last - 1074
  · -- above all floats
    have hR2 : 9218868437227405312 ≤ R := by
      refine Nat.le_of_not_lt fun hlt => ?_
      have h1 := M_lt hlt
      rw [hMinf] at h1
      have h3 : M R * 2 ^ (A + 52) < 4503599627370496 * 2 ^ (A + 972) * 2 ^ (A + 52) := Nat.mul_lt_mul_of_pos_right h1 (Nat.two_pow_pos _)
      rw [key, Nat.mul_assoc, ← Nat.pow_add] at h3
      have h4 : 4503599627370496 * 2 ^ (A + 972 + (A + 52)) ≤ m * 2 ^ (P + t) := Nat.mul_le_mul hm1 (Nat.pow_le_pow_right (by omega) (by omega))
      omega
    rw [Nat.min_eq_right hR2]
    have hl0 : (FloatKind.f64.format.order (W false n) 0 == some .lt) = false := by
      have := B_lt false false n 0 (by omega) (by omega)
      rw [show W false 0 = 0 from rfl] at this
      rw [this, val_zero]
      exact decide_eq_false (by unfold val; simp only [Bool.false_eq_true, if_false]; omega)
    exact ldexp71 _ _ last w (fun w => ldexp87o _ _ last k _ _ w f1 f2 f3 hl0 hC (by omega) (by omega) (by omega) (by omega) (i64_exp false n (by omega)) (by omega) (by omega) hS c1)
  · by_cases c2 : -1022 ≤ (P : Int) + last - 1074
    · -- a normal number
      obtain ⟨Q, hQ⟩ : ∃ Q : Nat, (Q : Int) = last + P - 52 := ⟨(last + P - 52).toNat, by omega⟩
      have hMR : M R = m * 2 ^ Q := by
        refine pow_cancel (k := A + 52) ?_
        rw [key, Nat.mul_assoc, ← Nat.pow_add]
        rw [show P + t = Q + (A + 52) by omega]
      have hz : Q * 4503599627370496 + m < 9218868437227405312 := by omega
      have hRz : R = Q * 4503599627370496 + m := M_inj (hMR.trans (M_at Q m (Or.inl ⟨hm1, by omega⟩)).symm)
      rw [Nat.min_eq_left (by omega), hRz]
      have hput := bit_put false (n % 4503599627370496) (Q + 1) (by omega) (by omega)
      have e1 : (((Q + 1) * 4503599627370496 : Nat) : Int) = (((P : Int) + last - 1074) + 1023) * 4503599627370496 := put_n hQ
      have e2 : (Q + 1) * 4503599627370496 + n % 4503599627370496 = Q * 4503599627370496 + m := put_e hm
      rw [e1, e2] at hput
      have hone := one_mul_exact _ hz
      rw [show W false 4607182418800017408 = 4607182418800017408 from rfl, Bool.false_xor] at hone
      exact ldexp71 _ _ last w (fun w => ldexp87 _ _ _ _ last k _ _ w f1 f2 f3 hC (by omega) (by omega) (by omega) (by omega) (i64_exp false n (by omega)) (by omega) (by omega) hS c2 (by omega) (bit_cut false n (by omega)) hput hone)
    · -- a subnormal number
      obtain ⟨j, hj⟩ : ∃ j : Nat, (j : Int) = 52 - (last + P) := ⟨(52 - (last + P)).toNat, by omega⟩
      have hMj : M R * 2 ^ j = m := by
        refine pow_cancel (k := P + t) ?_
        rw [← key, Nat.mul_assoc, ← Nat.pow_add]
        rw [show A + 52 = j + (P + t) by omega]
      have hR0 : 0 < M R := by
        refine Nat.pos_of_ne_zero fun h => ?_
        rw [h, Nat.zero_mul] at hMj
        omega
      have hj52 : j ≤ 52 := by
        refine Nat.le_of_not_lt fun hlt => ?_
        have h1 : 1 * 2 ^ 53 ≤ M R * 2 ^ j := Nat.mul_le_mul hR0 (Nat.pow_le_pow_right (by omega) (by omega))
        rw [hMj] at h1
        omega
      have hRlt : R < 4503599627370496 := by
        refine Nat.lt_of_not_le fun hle => ?_
        have h1 := M_le hle
        have h2 : M 4503599627370496 = 4503599627370496 := by
          have := M_at 0 4503599627370496 (Or.inr ⟨rfl, by omega⟩)
          rw [Nat.zero_mul, Nat.zero_add] at this
          rw [this]
        rw [h2] at h1
        have h3 : 4503599627370496 * 2 ^ 1 ≤ M R * 2 ^ j := Nat.mul_le_mul h1 (Nat.pow_le_pow_right (by omega) (by omega))
        rw [hMj] at h3
        omega
      rw [Nat.min_eq_left (by omega)]
      have hput := bit_put false (n % 4503599627370496) (54 - j) (by omega) (by omega)
      have e1 : (((54 - j) * 4503599627370496 : Nat) : Int) = (((P : Int) + last - 1074) + 53 + 1023) * 4503599627370496 := put_s hj hj52
      have e2 : (54 - j) * 4503599627370496 + n % 4503599627370496 = (53 - j) * 4503599627370496 + m := by
        rw [show 54 - j = (53 - j) + 1 from sub_one hj52]
        exact put_e hm
      rw [e1, e2] at hput
      have hz : (53 - j) * 4503599627370496 + m < 9218868437227405312 := by omega
      have hMz : M ((53 - j) * 4503599627370496 + m) = m * 2 ^ (53 - j) := M_at (53 - j) m (Or.inl ⟨hm1, by omega⟩)
      have hprod := mul_exact false false 4368491638549381120 ((53 - j) * 4503599627370496 + m) R small_fin hz (Nat.le_of_lt (Nat.lt_trans hRlt (by decide))) (by
        rw [hM53, hMz, ← hMj, hU, show A = A1 + j + (53 - j) by omega, Nat.pow_add, Nat.pow_add]
        generalize 2 ^ A1 = a
        generalize 2 ^ j = b
        generalize 2 ^ (53 - j) = c
        ac_rfl)
      rw [show W false 4368491638549381120 = 4368491638549381120 from rfl, Bool.false_xor] at hprod
      exact ldexp71 _ _ last w (fun w => ldexp87s _ _ _ _ _ last k _ _ w f1 f2 f3 hC (by omega) (by omega) (by omega) (by omega) (i64_exp false n (by omega)) (by omega) (by omega) hS (by omega) (by omega) (bit_cut false n (by omega)) hput hprod)
end Go.Proofs.YtaiflkpanankcaaDoor.Fl
