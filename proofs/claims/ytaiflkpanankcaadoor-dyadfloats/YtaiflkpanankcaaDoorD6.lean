import Derived.Test.YtaiflkpanankcaaDoorD5
namespace Go.Proofs.YtaiflkpanankcaaDoor.Fl
open Go.RowKit
open Ieee
set_option linter.unusedVariables false

theorem i64_exp (s : Bool) (n : Nat) (h : n < 9223372036854775808) : bits BinOp.and IntKind.i64 (wrap64 ((W s n : Nat) / 4503599627370496 : Int)) 2047 = ((n / 4503599627370496 : Nat) : Int) := by
  have e : ((W s n : Nat) / 4503599627370496 : Int) = ((W s n / 4503599627370496 : Nat) : Int) := by simp
  have hl := W_lt s n h
  have e2 : wrap64 ((W s n / 4503599627370496 : Nat) : Int) = ((W s n / 4503599627370496 : Nat) : Int) := by unfold wrap64; omega
  rw [e, e2]
  have key : ∀ a : Nat, a < 4096 → bits .and .i64 (a : Int) ((2047 : Nat) : Int) = ((a &&& 2047 : Nat) : Int) := by
    intro a ha
    have hx : a &&& 2047 < 2 ^ 12 := Nat.and_lt_two_pow _ (by omega)
    show IntKind.i64.wrap ((BitVec.ofInt 64 (a : Int) &&& BitVec.ofInt 64 ((2047 : Nat) : Int)).toNat : Int) = _
    rw [BitVec.toNat_and, ofInt_u64 a (by omega), ofInt_u64 2047 (by omega), IntKind.wrap_i64]
    omega
  rw [show (2047 : Int) = ((2047 : Nat) : Int) from rfl, key _ (by omega)]
  have h2 := Nat.and_two_pow_sub_one_eq_mod (W s n / 4503599627370496) 11
  rw [show (2047 : Nat) = 2 ^ 11 - 1 from rfl, h2, W_eq]
  congr 1
  cases s <;> simp <;> omega

theorem M_1 : M 4607182418800017408 = U := by
  have h := M_at (E74 - 52) 4503599627370496 (Or.inl ⟨by omega, by omega⟩)
  have e : (E74 - 52) * 4503599627370496 + 4503599627370496 = 4607182418800017408 := rfl
  rw [e] at h
  rw [h]
  unfold U
  have e2 : E74 = 52 + (E74 - 52) := rfl
  conv => rhs; rw [e2, Nat.pow_add]

/-- WHAT Ldexp TELLS of what is not 0, where that is no subnormal number and not too great -/
theorem ldexp_spec (s : Bool) (r : Nat) (h0 : 0 < r) (hr : r < 9218868437227405312) :
    ∃ m P : Nat, 4503599627370496 ≤ m ∧ m < 9007199254740992 ∧ P ≤ 2097 ∧ M r * 2 ^ 52 = m * 2 ^ P ∧
      ∀ (e : Int) (Q : Nat), -5000 ≤ e → e ≤ 5000 → (Q : Int) = e + P - 52 → Q ≤ 2045 → ∀ w,
        Calls Tryd.prog 46 #[.float .f64 (W s r), .int .i64 e] w fun e w' => e = .returned (.float .f64 (W s (Q * 4503599627370496 + m))) ∧ w' = w := by
  obtain ⟨n, k, hB, hI, hk, hM, hC⟩ := norm_spec s r h0 hr
  obtain ⟨f1, f2, f3⟩ := fin_facts s r h0 hr
  have hE : n / 4503599627370496 < 2047 := by omega
  have hE1 : 1 ≤ n / 4503599627370496 := by omega
  refine ⟨4503599627370496 + n % 4503599627370496, ((n / 4503599627370496 : Nat) - 1 + k + 52).toNat, by omega, by omega, by omega, hM _ (by omega), ?_⟩
  intro e Q he1 he2 hQ hQ2 w
  have hput := bit_put s (n % 4503599627370496) (Q + 1) (by omega) (by omega)
  have e1 : (((Q + 1) * 4503599627370496 : Nat) : Int) = (((Q : Int) - 1022) + 1023) * 4503599627370496 := by omega
  have e2 : (Q + 1) * 4503599627370496 + n % 4503599627370496 = Q * 4503599627370496 + (4503599627370496 + n % 4503599627370496) := by omega
  rw [e1, e2] at hput
  have hz : Q * 4503599627370496 + (4503599627370496 + n % 4503599627370496) < 9218868437227405312 := by omega
  have hone := mul_exact false s 4607182418800017408 _ _ (by omega) hz (Nat.le_of_lt hz) (by rw [M_1, Nat.mul_comm])
  rw [show W false 4607182418800017408 = 4607182418800017408 from rfl, Bool.false_xor] at hone
  exact ldexp71 _ _ e w (fun w => ldexp87 _ _ _ _ e k _ ((Q : Int) - 1022) w f1 f2 f3 hC he1 he2 (by omega) (by omega) (i64_exp s n (by omega)) (by omega) (by omega) (by omega) (by omega) (by omega) (bit_cut s n (by omega)) hput hone)
theorem ldexp_same (x : Nat) (e : Int) (w : World) (h : (zeroB x || pinfB (absN x)) = true) :
    Calls Tryd.prog 46 #[.float .f64 x, .int .i64 e] w fun e w' => e = .returned (.float .f64 x) ∧ w' = w :=
  ldexp71 _ _ e w fun w => ldexp87i x e w h

end Go.Proofs.YtaiflkpanankcaaDoor.Fl
