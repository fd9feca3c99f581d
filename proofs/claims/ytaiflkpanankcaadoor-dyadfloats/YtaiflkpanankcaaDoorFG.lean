import Derived.Test.YtaiflkpanankcaaDoorFF
namespace Go.Proofs.YtaiflkpanankcaaDoor.Fl
open Go.RowKit
open Ieee
set_option linter.unusedVariables false

theorem copyN_t (r : Nat) (h : r < 9223372036854775808) : copyN r 13830554455654793216 = W true r := by
  have h1 : bits BinOp.andNot IntKind.u64 (r : Int) 9223372036854775808 = (r : Int) := by
    have := abs_W false r h
    rw [show W false r = r from rfl] at this
    unfold absN at this
    have h2 : 0 ≤ bits BinOp.andNot IntKind.u64 (r : Int) 9223372036854775808 := by
      show 0 ≤ IntKind.u64.wrap _
      rw [IntKind.wrap_u64]; omega
    omega
  have h3 : bits BinOp.and IntKind.u64 13830554455654793216 9223372036854775808 = ((9223372036854775808 : Nat) : Int) := by kernel_rfl
  unfold copyN
  rw [h1, show ((13830554455654793216 : Nat) : Int) = 13830554455654793216 from rfl, h3, bits_or_u64_nat r 9223372036854775808 (by omega) (by omega)]
  have : r ||| 9223372036854775808 = 9223372036854775808 + r := by
    have := Nat.two_pow_add_eq_or_of_lt (i := 63) (b := r) (by simpa using h) 1
    rw [Nat.or_comm]
    simpa using this.symm
  rw [this]
  show _ = 9223372036854775808 + r
  simp
  omega
@[irreducible] def DD : Nat := 2 ^ (KK - 1074).toNat
theorem DD_eq : DD = 2 ^ (KK - 1074).toNat := by unfold DD; rfl
theorem DD_pos : 0 < DD := by rw [DD_eq]; exact Nat.two_pow_pos _
/-- THE FLOAT NEAREST TO A RIGHT DYAD: a rung, or too great -/
theorem float_spec (s : Bool) (ad : Option Addr) (n cap q : Nat) (e : Int) (w : World) (dx : DyAt w s ad (n + 1) cap e (2 * q + 1)) (e1 : -30000 ≤ e) (e2 : e ≤ 30000) (hbl : bl (2 * q + 1) ≤ 60000) (hbe : (bl (2 * q + 1) : Int) + e ≤ 30000) :
    ∃ (t N : Nat), N ≤ 9007199254740992 ∧ (t = 0 ∨ 4503599627370496 ≤ N) ∧ Rnd ((2 * q + 1) * 2 ^ (e + KK).toNat) (2 ^ t * DD) N ∧ (0 < t → 4503599627370496 * (2 ^ t * DD) ≤ (2 * q + 1) * 2 ^ (e + KK).toNat) ∧
      ((t * 4503599627370496 + N < 9218868437227405312 ∧ ∀ w1, Gr w w1 → Calls Tryd.prog 22 #[.agg #[.bool s, .slice ad (n + 1) cap, .int .i64 e]] w1 fun r w' => r = .returned (.tuple #[.float .f64 (W s (t * 4503599627370496 + N)), .int .i64 0]) ∧ Gr w1 w') ∨
        (9218868437227405312 ≤ t * 4503599627370496 + N ∧ ∀ w1, Gr w w1 → Calls Tryd.prog 22 #[.agg #[.bool s, .slice ad (n + 1) cap, .int .i64 e]] w1 fun r w' => r = .returned (.tuple #[.float .f64 0, .int .i64 6]) ∧ Gr w1 w')) := by
  have hkk := KK_eq
  have hle := dx.le
  obtain ⟨L, hL⟩ : ∃ L, L = bl (2 * q + 1) := ⟨_, rfl⟩
  have hx1 : 2 * q + 1 < 2 ^ L := hL ▸ bl_lt _
  have hx2 : 2 ^ L ≤ 2 * (2 * q + 1) := hL ▸ bl_le (by omega)
  have hL0 : 0 < L := Nat.pos_of_ne_zero fun h => by rw [h] at hx1; simp at hx1
  obtain ⟨last, hlast⟩ : ∃ last : Int, last = max ((L : Int) + e - 53) (-1074) := ⟨_, rfl⟩
  obtain ⟨t, ht⟩ : ∃ t : Nat, (t : Int) = last + 1074 := ⟨(last + 1074).toNat, by omega⟩
  have hG : 2 ^ t * DD = 2 ^ (last + KK).toNat := by
    rw [DD_eq, ← Nat.pow_add]; congr 1; omega
  -- the rounded number
  obtain ⟨N, hN, hN2, hR, hlow, H48⟩ : ∃ N, N ≤ 9007199254740992 ∧ (t = 0 ∨ 4503599627370496 ≤ N) ∧ Rnd ((2 * q + 1) * 2 ^ (e + KK).toNat) (2 ^ t * DD) N ∧ (0 < t → 4503599627370496 * (2 ^ t * DD) ≤ (2 * q + 1) * 2 ^ (e + KK).toNat) ∧
      ∀ w1, Gr w w1 → Calls Tryd.prog 48 #[.slice ad (n + 1) cap, .int .i64 (last - e)] w1 fun r w' => r = .returned (.int .u64 (N : Int)) ∧ Gr w1 w' := by
    by_cases hb : last - e ≤ 0
    · obtain ⟨k, hk⟩ : ∃ k : Nat, (k : Int) = e - last := ⟨(e - last).toNat, by omega⟩
      have hlt : (2 * q + 1) * 2 ^ k < 9007199254740992 := by
        have h1 : (2 * q + 1) * 2 ^ k < 2 ^ L * 2 ^ k := Nat.mul_lt_mul_of_pos_right hx1 (Nat.two_pow_pos k)
        rw [← Nat.pow_add] at h1
        have h2 : 2 ^ (L + k) ≤ 2 ^ 53 := Nat.pow_le_pow_right (by omega) (by omega)
        omega
      have eA : (2 * q + 1) * 2 ^ (e + KK).toNat = (2 * q + 1) * 2 ^ k * 2 ^ (last + KK).toNat := by
        rw [Nat.mul_assoc, ← Nat.pow_add]; congr 2; omega
      have hge : 0 < t → 4503599627370496 ≤ (2 * q + 1) * 2 ^ k := fun h0 => by
        have h1 : 2 ^ L * 2 ^ k ≤ 2 * (2 * q + 1) * 2 ^ k := Nat.mul_le_mul_right _ hx2
        rw [← Nat.pow_add, show L + k = 53 by omega, Nat.mul_assoc] at h1
        omega
      refine ⟨(2 * q + 1) * 2 ^ k, by omega, ?_, ?_, ?_, fun w1 g => nearest48z ad (n + 1) cap (2 * q + 1) k _ w1 (dx.lim.gr g) (by omega) (by omega) (by omega) (by omega) (by omega)⟩
      · by_cases h0 : t = 0
        · exact Or.inl h0
        · exact Or.inr (hge (by omega))
      · rw [hG]; exact rnd_exact _ _ _ (Nat.two_pow_pos _) eA
      · intro h0
        rw [hG, eA]
        exact Nat.mul_le_mul_right _ (hge h0)
    · obtain ⟨b, hb2⟩ : ∃ b : Nat, (b : Int) = last - e := ⟨(last - e).toNat, by omega⟩
      have hlt : (2 * q + 1) / 2 ^ b < 9007199254740992 := by
        rw [Nat.div_lt_iff_lt_mul (Nat.two_pow_pos b)]
        have h2 : 2 ^ L ≤ 2 ^ (53 + b) := Nat.pow_le_pow_right (by omega) (by omega)
        rw [Nat.pow_add] at h2
        have : (2 : Nat) ^ 53 = 9007199254740992 := rfl
        rw [this] at h2
        omega
      have hup : (upB (2 * q + 1) b).toNat ≤ 1 := by cases upB (2 * q + 1) b <;> decide
      have eG : 2 ^ (last + KK).toNat = 2 ^ b * 2 ^ (e + KK).toNat := by rw [← Nat.pow_add]; congr 1; omega
      have hge : 0 < t → 4503599627370496 * 2 ^ b ≤ 2 * q + 1 := fun h0 => by
        have h1 : L = 53 + b := by omega
        rw [h1, Nat.pow_add] at hx2
        have : (2 : Nat) ^ 53 = 2 * 4503599627370496 := rfl
        rw [this, Nat.mul_assoc] at hx2
        omega
      refine ⟨(2 * q + 1) / 2 ^ b + (upB (2 * q + 1) b).toNat, by omega, ?_, ?_, ?_, fun w1 g => ?_⟩
      · by_cases h0 : t = 0
        · exact Or.inl h0
        · have := (Nat.le_div_iff_mul_le (Nat.two_pow_pos b)).2 (hge (by omega))
          exact Or.inr (by omega)
      · rw [hG, eG]; exact rnd_up q b _ (Nat.two_pow_pos _) (by omega)
      · intro h0
        rw [hG, eG, ← Nat.mul_assoc]
        exact Nat.mul_le_mul_right _ (hge h0)
      · have := nearest48p ad (n + 1) cap (2 * q + 1) b w1 (dx.lim.gr g) (by omega) (by omega) (by omega) (by omega)
        rw [hb2] at this
        exact this
  refine ⟨t, N, hN, hN2, hR, hlow, ?_⟩
  obtain ⟨hM, _, _⟩ := rung_near t N hN hN2
  have A46 : Hid (∀ w, Calls Tryd.prog 46 #[.float .f64 (floatOfInt FloatKind.f64 (N : Int)), .int .i64 last] w fun e w' => e = .returned (.float .f64 (min (t * 4503599627370496 + N) 9218868437227405312)) ∧ w' = w) := by
    intro w
    clear hR hlow hG H48 dx
    rw [floatOfInt_W (N : Int) (by omega), show decide ((N : Int) < 0) = false from decide_eq_false (by omega), show ((N : Int)).natAbs = N by omega]
    by_cases h0 : N = 0
    · subst h0
      obtain rfl : t = 0 := by rcases hN2 with h | h; exact h; exact absurd h (by decide)
      have hz : ofN 0 = 0 := M_inj ((ofN_spec 0 (by omega)).1.trans (by rw [Nat.zero_mul, M_zero]))
      rw [hz]
      have := ldexp_same (W false 0) last w (by rw [zeroB_W false 0 (by omega)]; rfl)
      exact this
    · exact ldexpN (ofN N) N (t * 4503599627370496 + N) t last (by omega) (ofN_spec N (by omega)).2.1 (ofN_spec N (by omega)).1 ht (by omega) hM w
  rw [hL] at hlast
  by_cases hf : t * 4503599627370496 + N < 9218868437227405312
  · rw [Nat.min_eq_left (by omega)] at A46
    have hI : pinfB (absN (t * 4503599627370496 + N)) = false := by
      have h1 := abs_W false (t * 4503599627370496 + N) (by omega)
      rw [show W false (t * 4503599627370496 + N) = t * 4503599627370496 + N from rfl] at h1
      rw [h1]
      have h2 := pinfB_W false (t * 4503599627370496 + N) (by omega)
      rw [show W false (t * 4503599627370496 + N) = t * 4503599627370496 + N from rfl] at h2
      rw [h2, decide_eq_false (by omega)]; rfl
    refine Or.inl ⟨hf, fun w1 g => ?_⟩
    cases s
    · exact float22p ad n cap (2 * q + 1) N (t * 4503599627370496 + N) e last w1 (dx.gr g) (by omega) hlast.symm (fun w2 g2 => H48 w2 (g.trans g2)) A46 hI
    · have := float22n ad n cap (2 * q + 1) N (t * 4503599627370496 + N) e last w1 (dx.gr g) (by omega) hlast.symm (fun w2 g2 => H48 w2 (g.trans g2)) A46 hI
      rw [copyN_t _ (by omega)] at this
      exact this
  · rw [Nat.min_eq_right (by omega)] at A46
    refine Or.inr ⟨by omega, fun w1 g => float22o s ad n cap (2 * q + 1) N 9218868437227405312 e last w1 (dx.gr g) (by omega) hlast.symm (fun w2 g2 => H48 w2 (g.trans g2)) A46 ?_⟩
    have h1 := abs_W false 9218868437227405312 (by omega)
    rw [show W false 9218868437227405312 = 9218868437227405312 from rfl] at h1
    have h2 := pinfB_W false 9218868437227405312 (by omega)
    rw [show W false 9218868437227405312 = 9218868437227405312 from rfl] at h2
    exact (congrArg pinfB h1).trans h2
end Go.Proofs.YtaiflkpanankcaaDoor.Fl
