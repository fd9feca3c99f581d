import Derived.Test.YtaiflkpanankcaaDoorFE
import Derived.Test.YtaiflkpanankcaaDoorFD
namespace Go.Proofs.YtaiflkpanankcaaDoor.Fl
open Go.RowKit
open Ieee
set_option linter.unusedVariables false

/-- what was rounded: N gaps, half a gap off at most, even where it is half a gap -/
structure Rnd (A G N : Nat) : Prop where
  lo : 2 * (N * G) ≤ 2 * A + G
  hi : 2 * A ≤ 2 * (N * G) + G
  tlo : 2 * (N * G) = 2 * A + G → N % 2 = 0
  thi : 2 * A = 2 * (N * G) + G → N % 2 = 0
theorem Rnd.of {A G N K : Nat} (h : N * G = K) (lo : 2 * K ≤ 2 * A + G) (hi : 2 * A ≤ 2 * K + G) (tlo : 2 * K = 2 * A + G → N % 2 = 0) (thi : 2 * A = 2 * K + G → N % 2 = 0) : Rnd A G N := by
  subst h; exact ⟨lo, hi, tlo, thi⟩
theorem rnd_exact (A G N : Nat) (hG : 0 < G) (h : A = N * G) : Rnd A G N := by
  subst h
  exact ⟨by omega, by omega, fun h => by omega, fun h => by omega⟩
/-- an odd number, rounded by the program's rule -/
theorem rnd_up (q b F : Nat) (hF : 0 < F) (b0 : 0 < b) : Rnd ((2 * q + 1) * F) (2 ^ b * F) ((2 * q + 1) / 2 ^ b + (upB (2 * q + 1) b).toNat) := by
  obtain ⟨c, rfl⟩ : ∃ c, b = c + 1 := ⟨b - 1, by omega⟩
  have hP : 0 < 2 ^ c := Nat.two_pow_pos c
  have e1 : 2 ^ (c + 1) = 2 * 2 ^ c := by rw [Nat.pow_succ]; omega
  have hbit : bitB (2 * q + 1) c = decide ((2 * q + 1) / 2 ^ c % 2 = 1) := rfl
  have hd : (2 * q + 1) / 2 ^ (c + 1) = (2 * q + 1) / 2 ^ c / 2 := by rw [Nat.pow_succ, Nat.div_div_eq_div_mul]
  have hx := Nat.div_add_mod (2 * q + 1) (2 ^ c)
  have hm := Nat.mod_lt (2 * q + 1) hP
  have hup : upB (2 * q + 1) (c + 1) = (decide ((2 * q + 1) / 2 ^ c % 2 = 1) && (decide (1 < c + 1) || decide ((2 * q + 1) / 2 ^ c / 2 % 2 = 1))) := by
    unfold upB
    rw [hd]
    rfl
  rw [hup, hd, e1]
  -- c = 0: nothing below the bit; c > 0: the lowest bit is below it
  have hlow : (c = 0 ∧ (2 * q + 1) % 2 ^ c = 0) ∨ (0 < c ∧ 0 < (2 * q + 1) % 2 ^ c) := by
    by_cases h : c = 0
    · subst h; exact Or.inl ⟨rfl, Nat.mod_one _⟩
    · refine Or.inr ⟨by omega, Nat.pos_of_ne_zero fun h0 => ?_⟩
      obtain ⟨d, rfl⟩ : ∃ d, c = d + 1 := ⟨c - 1, by omega⟩
      have : 2 ∣ 2 * q + 1 := Nat.dvd_trans ⟨2 ^ d, by rw [Nat.pow_succ]; omega⟩ (Nat.dvd_of_mod_eq_zero h0)
      omega
  generalize (2 * q + 1) / 2 ^ c = y at *
  generalize (2 * q + 1) % 2 ^ c = z at *
  generalize 2 ^ c = P at *
  generalize 2 * q + 1 = x at *
  have hxF : x * F = y * (P * F) + z * F := by rw [← hx, Nat.add_mul, Nat.mul_assoc, Nat.mul_left_comm]
  have hzF : z * F < P * F := Nat.mul_lt_mul_of_pos_right hm hF
  have hz0 : 0 < c → 0 < z * F := fun h => Nat.mul_pos (by omega) hF
  have hzc : c = 0 → z * F = 0 := fun h => by rw [show z = 0 by omega, Nat.zero_mul]
  have ePF : 2 * P * F = 2 * (P * F) := Nat.mul_assoc _ _ _
  rw [hxF, ePF]
  generalize P * F = H at *
  generalize z * F = zf at *
  have hy := Nat.div_add_mod y 2
  by_cases hb : y % 2 = 1
  · have ey : y = 2 * (y / 2) + 1 := by omega
    by_cases hc : c = 0
    · have hz := hzc hc
      subst hz
      by_cases hp : y / 2 % 2 = 1
      · have hN : y / 2 + (decide (y % 2 = 1) && (decide (1 < c + 1) || decide (y / 2 % 2 = 1))).toNat = y / 2 + 1 := by simp [hb, hp]
        rw [hN]
        have e2 : (y / 2 + 1) * (2 * H) = y * H + H := by
          conv => rhs; rw [ey]
          rw [Nat.add_mul, Nat.add_mul, Nat.mul_comm 2 (y / 2), Nat.mul_assoc]; omega
        exact Rnd.of e2 (by omega) (by omega) (fun _ => by omega) (fun h => by omega)
      · have hN : y / 2 + (decide (y % 2 = 1) && (decide (1 < c + 1) || decide (y / 2 % 2 = 1))).toNat = y / 2 := by simp [hb, hp, hc]
        rw [hN]
        have e2 : y / 2 * (2 * H) + H = y * H := by
          conv => rhs; rw [ey]
          rw [Nat.add_mul, Nat.mul_comm 2 (y / 2), Nat.mul_assoc]; omega
        rw [← e2]
        exact ⟨by omega, by omega, fun h => by omega, fun _ => by omega⟩
    · have hz := hz0 (by omega)
      have hN : y / 2 + (decide (y % 2 = 1) && (decide (1 < c + 1) || decide (y / 2 % 2 = 1))).toNat = y / 2 + 1 := by simp [hb, show 1 < c + 1 by omega]
      rw [hN]
      have e2 : (y / 2 + 1) * (2 * H) = y * H + H := by
        conv => rhs; rw [ey]
        rw [Nat.add_mul, Nat.add_mul, Nat.mul_comm 2 (y / 2), Nat.mul_assoc]; omega
      exact Rnd.of e2 (by omega) (by omega) (fun h => by omega) (fun h => by omega)
  · have ey : y = 2 * (y / 2) := by omega
    have hN : y / 2 + (decide (y % 2 = 1) && (decide (1 < c + 1) || decide (y / 2 % 2 = 1))).toNat = y / 2 := by simp [hb]
    rw [hN]
    have e2 : y / 2 * (2 * H) = y * H := by
      conv => rhs; rw [ey]
      rw [Nat.mul_comm 2 (y / 2), Nat.mul_assoc]
    exact Rnd.of e2 (by omega) (by omega) (fun h => by omega) (fun h => by omega)
/-- the rung of N gaps, and its neighbours -/
theorem rung_near (t N : Nat) (hN : N ≤ 9007199254740992) (h : t = 0 ∨ 4503599627370496 ≤ N) :
    M (t * 4503599627370496 + N) = N * 2 ^ t ∧ N * 2 ^ t + 2 ^ t ≤ M (t * 4503599627370496 + N + 1) ∧
      (0 < t * 4503599627370496 + N → (M (t * 4503599627370496 + N - 1) + 2 ^ t = N * 2 ^ t ∨ (0 < t ∧ N = 4503599627370496 ∧ 2 * M (t * 4503599627370496 + N - 1) + 2 ^ t = 2 * (N * 2 ^ t)))) := by
  have hM := M_at t N (by rcases h with h | h; exact Or.inr ⟨h, hN⟩; exact Or.inl ⟨h, hN⟩)
  refine ⟨hM, ?_, fun h0 => ?_⟩
  · have hs := M_succ (t * 4503599627370496 + N)
    have he : t ≤ ex (t * 4503599627370496 + N) := by unfold ex; omega
    have := Nat.pow_le_pow_right (n := 2) (by omega) he
    rw [hs, hM]
    omega
  · have hs := M_succ (t * 4503599627370496 + N - 1)
    rw [show t * 4503599627370496 + N - 1 + 1 = t * 4503599627370496 + N by omega, hM] at hs
    by_cases hc : t = 0 ∨ 4503599627370496 < N
    · left
      have he : ex (t * 4503599627370496 + N - 1) = t := by unfold ex; omega
      rw [he] at hs
      omega
    · right
      have he : ex (t * 4503599627370496 + N - 1) = t - 1 := by unfold ex; omega
      rw [he] at hs
      refine ⟨by omega, by omega, ?_⟩
      have e2 : 2 ^ t = 2 * 2 ^ (t - 1) := by
        obtain ⟨u, rfl⟩ : ∃ u, t = u + 1 := ⟨t - 1, by omega⟩
        rw [Nat.add_sub_cancel, Nat.pow_succ, Nat.mul_comm]
      omega
end Go.Proofs.YtaiflkpanankcaaDoor.Fl
