import Derived.Test.YtlhpkflknfmjcaaGreatDoorM21
namespace Go.Proofs.YtlhpkflknfmjcaaGreatDoor.Fl
open Go.RowKit
open Ieee
set_option linter.unusedVariables false

def E21 : Nat := 1021
theorem E21_eq : E21 = 1021 := rfl
theorem M_53 : M 4368491638549381120 = 2 ^ E21 := by
  have h := M_at (E21 - 52) 4503599627370496 (Or.inl ⟨by omega, by omega⟩)
  have e : (E21 - 52) * 4503599627370496 + 4503599627370496 = 4368491638549381120 := rfl
  rw [e] at h
  rw [h]
  have e2 : E21 = 52 + (E21 - 52) := rfl
  conv => rhs; rw [e2, Nat.pow_add]
theorem U_form : ∃ A : Nat, A = 1074 ∧ U = 2 ^ A := ⟨E74, E74_eq, by unfold U; rfl⟩
theorem M53_form : ∃ A1 : Nat, A1 = 1021 ∧ M 4368491638549381120 = 2 ^ A1 := ⟨E21, E21_eq, M_53⟩
theorem put_n {P Q : Nat} {last : Int} (hQ : (Q : Int) = last + P - 52) : (((Q + 1) * 4503599627370496 : Nat) : Int) = (((P : Int) + last - 1074) + 1023) * 4503599627370496 := by
  rw [Int.natCast_mul]
  congr 1
  omega
theorem put_s {P j : Nat} {last : Int} (hj : (j : Int) = 52 - (last + P)) (h : j ≤ 52) : (((54 - j) * 4503599627370496 : Nat) : Int) = (((P : Int) + last - 1074) + 53 + 1023) * 4503599627370496 := by
  rw [Int.natCast_mul]
  congr 1
  omega
theorem one_mul_exact (z : Nat) (hz : z < 9218868437227405312) : double.mul (W false 4607182418800017408) (W false z) = some (W (false ^^ false) z) :=
  mul_exact false false 4607182418800017408 _ _ (by omega) hz (Nat.le_of_lt hz) (by rw [M_1, Nat.mul_comm])
theorem small_fin : 4368491638549381120 < 9218868437227405312 := by omega
theorem put_e {Q n m : Nat} (hm : m = 4503599627370496 + n % 4503599627370496) : (Q + 1) * 4503599627370496 + n % 4503599627370496 = Q * 4503599627370496 + m := by
  rw [Nat.succ_mul]; omega
theorem sub_one {j : Nat} (h : j ≤ 52) : 54 - j = (53 - j) + 1 := by omega
theorem pow_cancel {a b k : Nat} (h : a * 2 ^ k = b * 2 ^ k) : a = b := Nat.eq_of_mul_eq_mul_right (Nat.two_pow_pos k) h
theorem pow_le_iff {a b : Nat} (h : 2 ^ a ≤ 2 ^ b) : a ≤ b := (Nat.pow_le_pow_iff_right (by omega)).1 h
/-- WHAT Ldexp TELLS of a whole number of at most 53 bits: the rung of it times that power, or the infinity -/
theorem ldexpN (r0 N R t : Nat) (last : Int) (hN0 : 0 < N) (hr0 : r0 < 9218868437227405312) (h0 : M r0 = N * U) (ht : (t : Int) = last + 1074) (hl : last ≤ 4000000) (hR : M R = N * 2 ^ t) (w : World) :
    Calls Tryz.prog 133 #[.float .f64 (W false r0), .int .i64 last] w fun e w' => e = .returned (.float .f64 (min R 9218868437227405312)) ∧ w' = w := by
  obtain ⟨A, hA, hU⟩ : ∃ A : Nat, A = 1074 ∧ U = 2 ^ A := U_form
  obtain ⟨A1, hA1, hM53⟩ : ∃ A1 : Nat, A1 = 1021 ∧ M 4368491638549381120 = 2 ^ A1 := M53_form
  have hMinf : M 9218868437227405312 = 4503599627370496 * 2 ^ (A + 972) := by
    have := M_at (A + 972) 4503599627370496 (Or.inl ⟨by omega, by omega⟩)
    rw [show (A + 972) * 4503599627370496 + 4503599627370496 = 9218868437227405312 by omega] at this
    exact this
  have r00 : 0 < r0 := by
    refine Nat.pos_of_ne_zero fun h => ?_
    subst h
    rw [M_zero] at h0
    have := Nat.mul_pos hN0 U_pos
    omega
  obtain ⟨n, k, hB, hI, hk, hM, hC⟩ := norm_spec false r0 r00 hr0
  obtain ⟨f1, f2, f3⟩ := fin_facts false r0 r00 hr0
  have hE : n / 4503599627370496 < 2047 := by omega
  have hE1 : 1 ≤ n / 4503599627370496 := by omega
  obtain ⟨P, hP⟩ : ∃ P : Nat, (P : Int) = (n / 4503599627370496 : Nat) - 1 + k + 52 := ⟨((n / 4503599627370496 : Nat) - 1 + k + 52).toNat, by omega⟩
  have hM1 := hM P hP
  obtain ⟨m, hm⟩ : ∃ m, m = 4503599627370496 + n % 4503599627370496 := ⟨_, rfl⟩
  rw [← hm] at hM1
  have hm1 : 4503599627370496 ≤ m := by omega
  have hm2 : m < 9007199254740992 := by omega
  -- M R, by m
  have key : M R * 2 ^ (A + 52) = m * 2 ^ (P + t) := by
    rw [hR, Nat.pow_add 2 P, ← Nat.mul_assoc, ← hM1, h0, hU, Nat.pow_add]
    generalize 2 ^ A = a
    generalize 2 ^ t = b
    generalize (2 : Nat) ^ 52 = c
    ac_rfl
  have hS : last + k + (((n / 4503599627370496 : Nat) : Int) - 1023) = (P : Int) + last - 1074 := by omega
  by_cases c1 : 1023 < (P : Int) + last - 1074
  · -- above all floats
    have hR2 : 9218868437227405312 ≤ R := by
      refine Nat.le_of_not_lt fun hlt => ?_
      have h1 := M_lt hlt
      rw [hMinf] at h1
      have h3 : M R * 2 ^ (A + 52) < 4503599627370496 * 2 ^ (A + 972) * 2 ^ (A + 52) := Nat.mul_lt_mul_of_pos_right h1 (Nat.two_pow_pos _)
      rw [key, Nat.mul_assoc, ← Nat.pow_add] at h3
      have h4 : 4503599627370496 * 2 ^ (A + 972 + (A + 52)) ≤ m * 2 ^ (P + t) := Nat.mul_le_mul hm1 (Nat.pow_le_pow_right (by omega) (by omega))
      omega
    rw [Nat.min_eq_right hR2]
    have hl0 : (FloatKind.f64.format.order (W false n) 0 == some .lt) = false := by
      have := B_lt false false n 0 (by omega) (by omega)
      rw [show W false 0 = 0 from rfl] at this
      rw [this, val_zero]
      exact decide_eq_false (by unfold val; simp only [Bool.false_eq_true, if_false]; omega)
    exact ldexp71 _ _ last w (fun w => ldexp87o _ _ last k _ _ w f1 f2 f3 hl0 hC (by omega) (by omega) (by omega) (by omega) (i64_exp false n (by omega)) (by omega) (by omega) hS c1)
  · by_cases c2 : -1022 ≤ (P : Int) + last - 1074
    · -- a normal number
      obtain ⟨Q, hQ⟩ : ∃ Q : Nat, (Q : Int) = last + P - 52 := ⟨(last + P - 52).toNat, by omega⟩
      have hMR : M R = m * 2 ^ Q := by
        refine pow_cancel (k := A + 52) ?_
        rw [key, Nat.mul_assoc, ← Nat.pow_add]
        rw [show P + t = Q + (A + 52) by omega]
      have hz : Q * 4503599627370496 + m < 9218868437227405312 := by omega
      have hRz : R = Q * 4503599627370496 + m := M_inj (hMR.trans (M_at Q m (Or.inl ⟨hm1, by omega⟩)).symm)
      rw [Nat.min_eq_left (by omega), hRz]
      have hput := bit_put false (n % 4503599627370496) (Q + 1) (by omega) (by omega)
      have e1 : (((Q + 1) * 4503599627370496 : Nat) : Int) = (((P : Int) + last - 1074) + 1023) * 4503599627370496 := put_n hQ
      have e2 : (Q + 1) * 4503599627370496 + n % 4503599627370496 = Q * 4503599627370496 + m := put_e hm
      rw [e1, e2] at hput
      have hone := one_mul_exact _ hz
      rw [show W false 4607182418800017408 = 4607182418800017408 from rfl, Bool.false_xor] at hone
      exact ldexp71 _ _ last w (fun w => ldexp87 _ _ _ _ last k _ _ w f1 f2 f3 hC (by omega) (by omega) (by omega) (by omega) (i64_exp false n (by omega)) (by omega) (by omega) hS c2 (by omega) (bit_cut false n (by omega)) hput hone)
    · -- a subnormal number
      obtain ⟨j, hj⟩ : ∃ j : Nat, (j : Int) = 52 - (last + P) := ⟨(52 - (last + P)).toNat, by omega⟩
      have hMj : M R * 2 ^ j = m := by
        refine pow_cancel (k := P + t) ?_
        rw [← key, Nat.mul_assoc, ← Nat.pow_add]
        rw [show A + 52 = j + (P + t) by omega]
      have hR0 : 0 < M R := by
        refine Nat.pos_of_ne_zero fun h => ?_
        rw [h, Nat.zero_mul] at hMj
        omega
      have hj52 : j ≤ 52 := by
        refine Nat.le_of_not_lt fun hlt => ?_
        have h1 : 1 * 2 ^ 53 ≤ M R * 2 ^ j := Nat.mul_le_mul hR0 (Nat.pow_le_pow_right (by omega) (by omega))
        rw [hMj] at h1
        omega
      have hRlt : R < 4503599627370496 := by
        refine Nat.lt_of_not_le fun hle => ?_
        have h1 := M_le hle
        have h2 : M 4503599627370496 = 4503599627370496 := by
          have := M_at 0 4503599627370496 (Or.inr ⟨rfl, by omega⟩)
          rw [Nat.zero_mul, Nat.zero_add] at this
          rw [this]
        rw [h2] at h1
        have h3 : 4503599627370496 * 2 ^ 1 ≤ M R * 2 ^ j := Nat.mul_le_mul h1 (Nat.pow_le_pow_right (by omega) (by omega))
        rw [hMj] at h3
        omega
      rw [Nat.min_eq_left (by omega)]
      have hput := bit_put false (n % 4503599627370496) (54 - j) (by omega) (by omega)
      have e1 : (((54 - j) * 4503599627370496 : Nat) : Int) = (((P : Int) + last - 1074) + 53 + 1023) * 4503599627370496 := put_s hj hj52
      have e2 : (54 - j) * 4503599627370496 + n % 4503599627370496 = (53 - j) * 4503599627370496 + m := by
        rw [show 54 - j = (53 - j) + 1 from sub_one hj52]
        exact put_e hm
      rw [e1, e2] at hput
      have hz : (53 - j) * 4503599627370496 + m < 9218868437227405312 := by omega
      have hMz : M ((53 - j) * 4503599627370496 + m) = m * 2 ^ (53 - j) := M_at (53 - j) m (Or.inl ⟨hm1, by omega⟩)
      have hprod := mul_exact false false 4368491638549381120 ((53 - j) * 4503599627370496 + m) R small_fin hz (Nat.le_of_lt (Nat.lt_trans hRlt (by decide))) (by
        rw [hM53, hMz, ← hMj, hU, show A = A1 + j + (53 - j) by omega, Nat.pow_add, Nat.pow_add]
        generalize 2 ^ A1 = a
        generalize 2 ^ j = b
        generalize 2 ^ (53 - j) = c
        ac_rfl)
      rw [show W false 4368491638549381120 = 4368491638549381120 from rfl, Bool.false_xor] at hprod
      exact ldexp71 _ _ last w (fun w => ldexp87s _ _ _ _ _ last k _ _ w f1 f2 f3 hC (by omega) (by omega) (by omega) (by omega) (i64_exp false n (by omega)) (by omega) (by omega) hS (by omega) (by omega) (bit_cut false n (by omega)) hput hprod)
end Go.Proofs.YtlhpkflknfmjcaaGreatDoor.Fl
namespace Go.Proofs.YtlhpkflknfmjcaaGreatDoor.Fl
open Go.RowKit
open Ieee
set_option linter.unusedVariables false

/-- what was rounded: N gaps, half a gap off at most, even where it is half a gap -/
structure Rnd (A G N : Nat) : Prop where
  lo : 2 * (N * G) ≤ 2 * A + G
  hi : 2 * A ≤ 2 * (N * G) + G
  tlo : 2 * (N * G) = 2 * A + G → N % 2 = 0
  thi : 2 * A = 2 * (N * G) + G → N % 2 = 0
theorem Rnd.of {A G N K : Nat} (h : N * G = K) (lo : 2 * K ≤ 2 * A + G) (hi : 2 * A ≤ 2 * K + G) (tlo : 2 * K = 2 * A + G → N % 2 = 0) (thi : 2 * A = 2 * K + G → N % 2 = 0) : Rnd A G N := by
  subst h; exact ⟨lo, hi, tlo, thi⟩
theorem rnd_exact (A G N : Nat) (hG : 0 < G) (h : A = N * G) : Rnd A G N := by
  subst h
  exact ⟨by omega, by omega, fun h => by omega, fun h => by omega⟩
/-- an odd number, rounded by the program's rule -/
theorem rnd_up (q b F : Nat) (hF : 0 < F) (b0 : 0 < b) : Rnd ((2 * q + 1) * F) (2 ^ b * F) ((2 * q + 1) / 2 ^ b + (upB (2 * q + 1) b).toNat) := by
  obtain ⟨c, rfl⟩ : ∃ c, b = c + 1 := ⟨b - 1, by omega⟩
  have hP : 0 < 2 ^ c := Nat.two_pow_pos c
  have e1 : 2 ^ (c + 1) = 2 * 2 ^ c := by rw [Nat.pow_succ]; omega
  have hbit : bitB (2 * q + 1) c = decide ((2 * q + 1) / 2 ^ c % 2 = 1) := rfl
  have hd : (2 * q + 1) / 2 ^ (c + 1) = (2 * q + 1) / 2 ^ c / 2 := by rw [Nat.pow_succ, Nat.div_div_eq_div_mul]
  have hx := Nat.div_add_mod (2 * q + 1) (2 ^ c)
  have hm := Nat.mod_lt (2 * q + 1) hP
  have hup : upB (2 * q + 1) (c + 1) = (decide ((2 * q + 1) / 2 ^ c % 2 = 1) && (decide (1 < c + 1) || decide ((2 * q + 1) / 2 ^ c / 2 % 2 = 1))) := by
    unfold upB
    rw [hd]
    rfl
  rw [hup, hd, e1]
  -- c = 0: nothing below the bit; c > 0: the lowest bit is below it
  have hlow : (c = 0 ∧ (2 * q + 1) % 2 ^ c = 0) ∨ (0 < c ∧ 0 < (2 * q + 1) % 2 ^ c) := by
    by_cases h : c = 0
    · subst h; exact Or.inl ⟨rfl, Nat.mod_one _⟩
    · refine Or.inr ⟨by omega, Nat.pos_of_ne_zero fun h0 => ?_⟩
      obtain ⟨d, rfl⟩ : ∃ d, c = d + 1 := ⟨c - 1, by omega⟩
      have : 2 ∣ 2 * q + 1 := Nat.dvd_trans ⟨2 ^ d, by rw [Nat.pow_succ]; omega⟩ (Nat.dvd_of_mod_eq_zero h0)
      omega
  generalize (2 * q + 1) / 2 ^ c = y at *
  generalize (2 * q + 1) % 2 ^ c = z at *
  generalize 2 ^ c = P at *
  generalize 2 * q + 1 = x at *
  have hxF : x * F = y * (P * F) + z * F := by rw [← hx, Nat.add_mul, Nat.mul_assoc, Nat.mul_left_comm]
  have hzF : z * F < P * F := Nat.mul_lt_mul_of_pos_right hm hF
  have hz0 : 0 < c → 0 < z * F := fun h => Nat.mul_pos (by omega) hF
  have hzc : c = 0 → z * F = 0 := fun h => by rw [show z = 0 by omega, Nat.zero_mul]
  have ePF : 2 * P * F = 2 * (P * F) := Nat.mul_assoc _ _ _
  rw [hxF, ePF]
  generalize P * F = H at *
  generalize z * F = zf at *
  have hy := Nat.div_add_mod y 2
  by_cases hb : y % 2 = 1
  · have ey : y = 2 * (y / 2) + 1 := by omega
    by_cases hc : c = 0
    · have hz := hzc hc
      subst hz
      by_cases hp : y / 2 % 2 = 1
      · have hN : y / 2 + (decide (y % 2 = 1) && (decide (1 < c + 1) || decide (y / 2 % 2 = 1))).toNat = y / 2 + 1 := by simp [hb, hp]
        rw [hN]
        have e2 : (y / 2 + 1) * (2 * H) = y * H + H := by
          conv => rhs; rw [ey]
          rw [Nat.add_mul, Nat.add_mul, Nat.mul_comm 2 (y / 2), Nat.mul_assoc]; omega
        exact Rnd.of e2 (by omega) (by omega) (fun _ => by omega) (fun h => by omega)
      · have hN : y / 2 + (decide (y % 2 = 1) && (decide (1 < c + 1) || decide (y / 2 % 2 = 1))).toNat = y / 2 := by simp [hb, hp, hc]
        rw [hN]
        have e2 : y / 2 * (2 * H) + H = y * H := by
          conv => rhs; rw [ey]
          rw [Nat.add_mul, Nat.mul_comm 2 (y / 2), Nat.mul_assoc]; omega
        rw [← e2]
        exact ⟨by omega, by omega, fun h => by omega, fun _ => by omega⟩
    · have hz := hz0 (by omega)
      have hN : y / 2 + (decide (y % 2 = 1) && (decide (1 < c + 1) || decide (y / 2 % 2 = 1))).toNat = y / 2 + 1 := by simp [hb, show 1 < c + 1 by omega]
      rw [hN]
      have e2 : (y / 2 + 1) * (2 * H) = y * H + H := by
        conv => rhs; rw [ey]
        rw [Nat.add_mul, Nat.add_mul, Nat.mul_comm 2 (y / 2), Nat.mul_assoc]; omega
      exact Rnd.of e2 (by omega) (by omega) (fun h => by omega) (fun h => by omega)
  · have ey : y = 2 * (y / 2) := by omega
    have hN : y / 2 + (decide (y % 2 = 1) && (decide (1 < c + 1) || decide (y / 2 % 2 = 1))).toNat = y / 2 := by simp [hb]
    rw [hN]
    have e2 : y / 2 * (2 * H) = y * H := by
      conv => rhs; rw [ey]
      rw [Nat.mul_comm 2 (y / 2), Nat.mul_assoc]
    exact Rnd.of e2 (by omega) (by omega) (fun h => by omega) (fun h => by omega)
/-- the rung of N gaps, and its neighbours -/
theorem rung_near (t N : Nat) (hN : N ≤ 9007199254740992) (h : t = 0 ∨ 4503599627370496 ≤ N) :
    M (t * 4503599627370496 + N) = N * 2 ^ t ∧ N * 2 ^ t + 2 ^ t ≤ M (t * 4503599627370496 + N + 1) ∧
      (0 < t * 4503599627370496 + N → (M (t * 4503599627370496 + N - 1) + 2 ^ t = N * 2 ^ t ∨ (0 < t ∧ N = 4503599627370496 ∧ 2 * M (t * 4503599627370496 + N - 1) + 2 ^ t = 2 * (N * 2 ^ t)))) := by
  have hM := M_at t N (by rcases h with h | h; exact Or.inr ⟨h, hN⟩; exact Or.inl ⟨h, hN⟩)
  refine ⟨hM, ?_, fun h0 => ?_⟩
  · have hs := M_succ (t * 4503599627370496 + N)
    have he : t ≤ ex (t * 4503599627370496 + N) := by unfold ex; omega
    have := Nat.pow_le_pow_right (n := 2) (by omega) he
    rw [hs, hM]
    omega
  · have hs := M_succ (t * 4503599627370496 + N - 1)
    rw [show t * 4503599627370496 + N - 1 + 1 = t * 4503599627370496 + N by omega, hM] at hs
    by_cases hc : t = 0 ∨ 4503599627370496 < N
    · left
      have he : ex (t * 4503599627370496 + N - 1) = t := by unfold ex; omega
      rw [he] at hs
      omega
    · right
      have he : ex (t * 4503599627370496 + N - 1) = t - 1 := by unfold ex; omega
      rw [he] at hs
      refine ⟨by omega, by omega, ?_⟩
      have e2 : 2 ^ t = 2 * 2 ^ (t - 1) := by
        obtain ⟨u, rfl⟩ : ∃ u, t = u + 1 := ⟨t - 1, by omega⟩
        rw [Nat.add_sub_cancel, Nat.pow_succ, Nat.mul_comm]
      omega
end Go.Proofs.YtlhpkflknfmjcaaGreatDoor.Fl
namespace Go.Proofs.YtlhpkflknfmjcaaGreatDoor.Fl
open Go.RowKit
open Ieee
set_option linter.unusedVariables false

theorem copyN_t (r : Nat) (h : r < 9223372036854775808) : copyN r 13830554455654793216 = W true r := by
  have h1 : bits BinOp.andNot IntKind.u64 (r : Int) 9223372036854775808 = (r : Int) := by
    have := abs_W false r h
    rw [show W false r = r from rfl] at this
    unfold absN at this
    have h2 : 0 ≤ bits BinOp.andNot IntKind.u64 (r : Int) 9223372036854775808 := by
      show 0 ≤ IntKind.u64.wrap _
      rw [IntKind.wrap_u64]; omega
    omega
  have h3 : bits BinOp.and IntKind.u64 13830554455654793216 9223372036854775808 = ((9223372036854775808 : Nat) : Int) := by kernel_rfl
  unfold copyN
  rw [h1, show ((13830554455654793216 : Nat) : Int) = 13830554455654793216 from rfl, h3, bits_or_u64_nat r 9223372036854775808 (by omega) (by omega)]
  have : r ||| 9223372036854775808 = 9223372036854775808 + r := by
    have := Nat.two_pow_add_eq_or_of_lt (i := 63) (b := r) (by simpa using h) 1
    rw [Nat.or_comm]
    simpa using this.symm
  rw [this]
  show _ = 9223372036854775808 + r
  simp
  omega
@[irreducible] def DD : Nat := 2 ^ (KK - 1074).toNat
theorem DD_eq : DD = 2 ^ (KK - 1074).toNat := by unfold DD; rfl
theorem DD_pos : 0 < DD := by rw [DD_eq]; exact Nat.two_pow_pos _
/-- THE FLOAT NEAREST TO A RIGHT DYAD: a rung, or too great -/
theorem float_spec (s : Bool) (ad : Option Addr) (n cap q : Nat) (e : Int) (w : World) (dx : DyAt w s ad (n + 1) cap e (2 * q + 1)) (e1 : -30000 ≤ e) (e2 : e ≤ 30000) (hbl : bl (2 * q + 1) ≤ 60000) (hbe : (bl (2 * q + 1) : Int) + e ≤ 30000) :
    ∃ (t N : Nat), N ≤ 9007199254740992 ∧ (t = 0 ∨ 4503599627370496 ≤ N) ∧ Rnd ((2 * q + 1) * 2 ^ (e + KK).toNat) (2 ^ t * DD) N ∧ (0 < t → 4503599627370496 * (2 ^ t * DD) ≤ (2 * q + 1) * 2 ^ (e + KK).toNat) ∧
      ((t * 4503599627370496 + N < 9218868437227405312 ∧ ∀ w1, Gr w w1 → Calls Tryz.prog 143 #[.agg #[.bool s, .slice ad (n + 1) cap, .int .i64 e]] w1 fun r w' => r = .returned (.tuple #[.float .f64 (W s (t * 4503599627370496 + N)), .int .i64 0]) ∧ Gr w1 w') ∨
        (9218868437227405312 ≤ t * 4503599627370496 + N ∧ ∀ w1, Gr w w1 → Calls Tryz.prog 143 #[.agg #[.bool s, .slice ad (n + 1) cap, .int .i64 e]] w1 fun r w' => r = .returned (.tuple #[.float .f64 0, .int .i64 6]) ∧ Gr w1 w')) := by
  have hkk := KK_eq
  have hle := dx.le
  obtain ⟨L, hL⟩ : ∃ L, L = bl (2 * q + 1) := ⟨_, rfl⟩
  have hx1 : 2 * q + 1 < 2 ^ L := hL ▸ bl_lt _
  have hx2 : 2 ^ L ≤ 2 * (2 * q + 1) := hL ▸ bl_le (by omega)
  have hL0 : 0 < L := Nat.pos_of_ne_zero fun h => by rw [h] at hx1; simp at hx1
  obtain ⟨last, hlast⟩ : ∃ last : Int, last = max ((L : Int) + e - 53) (-1074) := ⟨_, rfl⟩
  obtain ⟨t, ht⟩ : ∃ t : Nat, (t : Int) = last + 1074 := ⟨(last + 1074).toNat, by omega⟩
  have hG : 2 ^ t * DD = 2 ^ (last + KK).toNat := by
    rw [DD_eq, ← Nat.pow_add]; congr 1; omega
  -- the rounded number
  obtain ⟨N, hN, hN2, hR, hlow, H48⟩ : ∃ N, N ≤ 9007199254740992 ∧ (t = 0 ∨ 4503599627370496 ≤ N) ∧ Rnd ((2 * q + 1) * 2 ^ (e + KK).toNat) (2 ^ t * DD) N ∧ (0 < t → 4503599627370496 * (2 ^ t * DD) ≤ (2 * q + 1) * 2 ^ (e + KK).toNat) ∧
      ∀ w1, Gr w w1 → Calls Tryz.prog 163 #[.slice ad (n + 1) cap, .int .i64 (last - e)] w1 fun r w' => r = .returned (.int .u64 (N : Int)) ∧ Gr w1 w' := by
    by_cases hb : last - e ≤ 0
    · obtain ⟨k, hk⟩ : ∃ k : Nat, (k : Int) = e - last := ⟨(e - last).toNat, by omega⟩
      have hlt : (2 * q + 1) * 2 ^ k < 9007199254740992 := by
        have h1 : (2 * q + 1) * 2 ^ k < 2 ^ L * 2 ^ k := Nat.mul_lt_mul_of_pos_right hx1 (Nat.two_pow_pos k)
        rw [← Nat.pow_add] at h1
        have h2 : 2 ^ (L + k) ≤ 2 ^ 53 := Nat.pow_le_pow_right (by omega) (by omega)
        omega
      have eA : (2 * q + 1) * 2 ^ (e + KK).toNat = (2 * q + 1) * 2 ^ k * 2 ^ (last + KK).toNat := by
        rw [Nat.mul_assoc, ← Nat.pow_add]; congr 2; omega
      have hge : 0 < t → 4503599627370496 ≤ (2 * q + 1) * 2 ^ k := fun h0 => by
        have h1 : 2 ^ L * 2 ^ k ≤ 2 * (2 * q + 1) * 2 ^ k := Nat.mul_le_mul_right _ hx2
        rw [← Nat.pow_add, show L + k = 53 by omega, Nat.mul_assoc] at h1
        omega
      refine ⟨(2 * q + 1) * 2 ^ k, by omega, ?_, ?_, ?_, fun w1 g => nearest48z ad (n + 1) cap (2 * q + 1) k _ w1 (dx.lim.gr g) (by omega) (by omega) (by omega) (by omega) (by omega)⟩
      · by_cases h0 : t = 0
        · exact Or.inl h0
        · exact Or.inr (hge (by omega))
      · rw [hG]; exact rnd_exact _ _ _ (Nat.two_pow_pos _) eA
      · intro h0
        rw [hG, eA]
        exact Nat.mul_le_mul_right _ (hge h0)
    · obtain ⟨b, hb2⟩ : ∃ b : Nat, (b : Int) = last - e := ⟨(last - e).toNat, by omega⟩
      have hlt : (2 * q + 1) / 2 ^ b < 9007199254740992 := by
        rw [Nat.div_lt_iff_lt_mul (Nat.two_pow_pos b)]
        have h2 : 2 ^ L ≤ 2 ^ (53 + b) := Nat.pow_le_pow_right (by omega) (by omega)
        rw [Nat.pow_add] at h2
        have : (2 : Nat) ^ 53 = 9007199254740992 := rfl
        rw [this] at h2
        omega
      have hup : (upB (2 * q + 1) b).toNat ≤ 1 := by cases upB (2 * q + 1) b <;> decide
      have eG : 2 ^ (last + KK).toNat = 2 ^ b * 2 ^ (e + KK).toNat := by rw [← Nat.pow_add]; congr 1; omega
      have hge : 0 < t → 4503599627370496 * 2 ^ b ≤ 2 * q + 1 := fun h0 => by
        have h1 : L = 53 + b := by omega
        rw [h1, Nat.pow_add] at hx2
        have : (2 : Nat) ^ 53 = 2 * 4503599627370496 := rfl
        rw [this, Nat.mul_assoc] at hx2
        omega
      refine ⟨(2 * q + 1) / 2 ^ b + (upB (2 * q + 1) b).toNat, by omega, ?_, ?_, ?_, fun w1 g => ?_⟩
      · by_cases h0 : t = 0
        · exact Or.inl h0
        · have := (Nat.le_div_iff_mul_le (Nat.two_pow_pos b)).2 (hge (by omega))
          exact Or.inr (by omega)
      · rw [hG, eG]; exact rnd_up q b _ (Nat.two_pow_pos _) (by omega)
      · intro h0
        rw [hG, eG, ← Nat.mul_assoc]
        exact Nat.mul_le_mul_right _ (hge h0)
      · have := nearest48p ad (n + 1) cap (2 * q + 1) b w1 (dx.lim.gr g) (by omega) (by omega) (by omega) (by omega)
        rw [hb2] at this
        exact this
  refine ⟨t, N, hN, hN2, hR, hlow, ?_⟩
  obtain ⟨hM, _, _⟩ := rung_near t N hN hN2
  have A46 : Hid (∀ w, Calls Tryz.prog 133 #[.float .f64 (floatOfInt FloatKind.f64 (N : Int)), .int .i64 last] w fun e w' => e = .returned (.float .f64 (min (t * 4503599627370496 + N) 9218868437227405312)) ∧ w' = w) := by
    intro w
    clear hR hlow hG H48 dx
    rw [floatOfInt_W (N : Int) (by omega), show decide ((N : Int) < 0) = false from decide_eq_false (by omega), show ((N : Int)).natAbs = N by omega]
    by_cases h0 : N = 0
    · subst h0
      obtain rfl : t = 0 := by rcases hN2 with h | h; exact h; exact absurd h (by decide)
      have hz : ofN 0 = 0 := M_inj ((ofN_spec 0 (by omega)).1.trans (by rw [Nat.zero_mul, M_zero]))
      rw [hz]
      have := ldexp_same (W false 0) last w (by rw [zeroB_W false 0 (by omega)]; rfl)
      exact this
    · exact ldexpN (ofN N) N (t * 4503599627370496 + N) t last (by omega) (ofN_spec N (by omega)).2.1 (ofN_spec N (by omega)).1 ht (by omega) hM w
  rw [hL] at hlast
  by_cases hf : t * 4503599627370496 + N < 9218868437227405312
  · rw [Nat.min_eq_left (by omega)] at A46
    have hI : pinfB (absN (t * 4503599627370496 + N)) = false := by
      have h1 := abs_W false (t * 4503599627370496 + N) (by omega)
      rw [show W false (t * 4503599627370496 + N) = t * 4503599627370496 + N from rfl] at h1
      rw [h1]
      have h2 := pinfB_W false (t * 4503599627370496 + N) (by omega)
      rw [show W false (t * 4503599627370496 + N) = t * 4503599627370496 + N from rfl] at h2
      rw [h2, decide_eq_false (by omega)]; rfl
    refine Or.inl ⟨hf, fun w1 g => ?_⟩
    cases s
    · exact float22p ad n cap (2 * q + 1) N (t * 4503599627370496 + N) e last w1 (dx.gr g) (by omega) hlast.symm (fun w2 g2 => H48 w2 (g.trans g2)) A46 hI
    · have := float22n ad n cap (2 * q + 1) N (t * 4503599627370496 + N) e last w1 (dx.gr g) (by omega) hlast.symm (fun w2 g2 => H48 w2 (g.trans g2)) A46 hI
      rw [copyN_t _ (by omega)] at this
      exact this
  · rw [Nat.min_eq_right (by omega)] at A46
    refine Or.inr ⟨by omega, fun w1 g => float22o s ad n cap (2 * q + 1) N 9218868437227405312 e last w1 (dx.gr g) (by omega) hlast.symm (fun w2 g2 => H48 w2 (g.trans g2)) A46 ?_⟩
    have h1 := abs_W false 9218868437227405312 (by omega)
    rw [show W false 9218868437227405312 = 9218868437227405312 from rfl] at h1
    have h2 := pinfB_W false 9218868437227405312 (by omega)
    rw [show W false 9218868437227405312 = 9218868437227405312 from rfl] at h2
    exact (congrArg pinfB h1).trans h2
end Go.Proofs.YtlhpkflknfmjcaaGreatDoor.Fl
